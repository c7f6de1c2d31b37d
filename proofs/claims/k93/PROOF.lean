import PyProof.Rows.All
import Wide.All
import OpenK.AllK
import Wide.FinOn
import Lean
import PyProof.EqAt
import PyProof.EqKinds
import PyProof.TupleCall
import PyProof.Rows.BitMore
import PyProof.ConsumeWalk
import PyProof.Rows.SetFrom
import PyProof.WalksMore
import PyProof.FactsAll.subtypes_4
import PyProof.Rows.SortWalk
import PyProof.Rows.TupDisplay
import PyProof.EnumMake
import PyProof.Rows.EnumRows
import PyProof.SumAny
import PyProof.Rows.MinMaxN
import PyProof.StrBlockL
import PyProof.StrCalls2
import PyProof.FitsInt
import PyProof.StrCalls
import PyProof.SliceStr2
import PyProof.StrBlockI
import PyProof.StrOps2
import PyProof.Rows.StrSplitAre
import PyProof.StrLawsTight
import PyProof.Rows.StrNews2
import PyProof.Rows.StrFromFirst
import PyProof.FString
import PyProof.Draws
import PyProof.Rows.CallKwBuiltin
import PyProof.StrLawsIn
import PyProof.StrLawsIdx
import PyProof.NeKinds
import PySem.Challenge.RW_spinboard_k93_whole_there_and_back
noncomputable section
open PySem PySem.Spec PyProof.Rows
theorem U{α:Sort u}{a:α}:a=a:=rfl
abbrev U0:=PySem.W.Frag
abbrev U1:=List (Addr×Obj)
abbrev U2:=Value->Shared->Prop
abbrev U3:=List Addr
abbrev U4:=Str->Option Value
abbrev U5:=List Value
abbrev U6:=List Int
abbrev U7:=Shared
abbrev U8:=Program
abbrev U9:=Array Value
abbrev W0:=List Str
abbrev W1:=World
abbrev W2:=Value
abbrev W3:=List Nat
abbrev W4:=Array (Option Value)
abbrev W5:=Option Addr
abbrev W7:=Around
abbrev W8:=List (Option Nat)
abbrev W9:=List Stmt
abbrev Y0:=Addr
noncomputable abbrev Ng (h:Heap)(m:Str->Option Value):=h.Ns mainGlobals m
set_option linter.all false
section
open PySem.W
def BJ:=@List.length_map
def Df:=@Heap.get?_push_of_some
def Bv:=@Heap.lt_size
def Bj:=@Nat.le_refl
def Fb:=@List.getElem?_eq_some_iff
def Bm:=@wpAny_bind
def Dw:=@List.getElem?_map
def Ej:=@Heap.get?_push_size
def Gp:=@List.getElem?_eq_getElem
def Dn:=@List.map_append
def Cy:=@List.mem_cons
def GZ:=@Option.map_eq_some_iff
def Eb:=@List.size_toArray
def Cv:=@Nat.le_trans
def CW:=@wpAny_pure
def Cw:=@Nat.ne_of_lt
def Ei:=@List.not_mem_nil
def Ft:=@Bool.false_ne_true
def Jd:=@Int.eq_of_mul_eq_mul_right
def GC:=@Nat.lt_of_lt_of_le
def Hy:=@List.mem_append_right
def Gn:=@PySem.W.mg_none_of
def FZ:=@decide_eq_false
def Hx:=@List.mem_cons_of_mem
def G3:=@List.length_append
def Il:=@List.mem_of_getElem?
def Kq:=@List.getD_eq_getElem?_getD
def Gk:=@Bool.and_eq_true
def Fq:=@List.mem_range
def Dz:=@Nat.zero_le
def Fz:=@PySem.boot_len
def LC:=@Nat.mod_two_eq_zero_or_one
def Kp:=@PySem.F.plainAttrs_str
def Ik:=@boot_isinstance
def Hv:=@Int.natAbs_mul
def Ep:=@wpAny_mono
def J2:=@Int.toNat_natCast
def Ko:=@List.mem_singleton
def Ij:=@Heap.size_push
def J1:=@List.all_eq_true
def Jc:=@decide_eq_true
def Km:=@List.take_add_one
def Kl:=@List.length_range
def Ii:=@PySem.W.mg_of
def J0:=@PySem.W.kia_one
def Hu:=@List.mem_map
def K_:=@decide_eq_true_eq
def Fp:=@segRun_of
def Fo:=@piece_app
def Kh:=@Nat.two_pow_pos
def QG:=@Int.eq_of_mul_eq_mul_left
def Eh:=@or_false
def Ht:=@Int.mul_pos
def Lx:=@wpAny_truthy_bool
def Jb:=@Int.mul_comm
def V8:=@Int.mul_nonneg_of_nonpos_of_nonpos
def Ry:=@PySem.F.slot_int_bit_length
def K9:=@List.mem_append
def Lw:=@List.take_length
def Jq:=@List.map_map
def Oh:=@PySem.mem_of_lookup
def QF:=@PySem.F.type_str_join
def QD:=@PySem.F.slot_str_join
def NQ:=@List.length_cons
def QC:=@Nat.pow_le_pow_right
def Og:=@wpAny_pyIter_list
def V7:=@PySem.F.type_int_bit_length
def NP:=@Int.mul_ne_zero
def NK:=@Int.mul_eq_zero
def Oe:=@List.length_take
def QB:=@Option.toList_some
def Ls:=@List.map_cons
def Rx:=@List.length_filter_le
def P_:=@wpAny_pyIter_enum
def Od:=@wpAny_passesOwn
def P0:=@wpAny_newObj_type
def V6:=@wpAny_comprehension_free
def V5:=@PySem.F.type_list_append
def V3:=@PySem.F.slot_list_append
def Oc:=@Nat.not_lt_zero
def Py:=@Nat.lt_succ_of_lt
def Lr:=@Nat.ne_of_gt
def V2:=@PySem.F.plainAttrs_list
def M_:=@Nat.lt_irrefl
def Rv:=@Array.toList_append
def Px:=@Nat.lt_succ_self
def Pu:=@Nat.gcd_mul_left
def Ob:=@Int.mul_nonneg
def V1:=@PySem.F.plainAttrs_int
def V0:=@List.take_of_length_le
def Ru:=@wpAny_Call_Name_kw
def Rt:=@List.mem_cons_self
def Rr:=@List.filter_append
def Rq:=@Int.natAbs_natCast
def Lp:=@wpAny_field
def M9:=@codeAny_mono
def Pr:=@List.range_succ
def Vz:=@Int.natAbs_dvd_natAbs
def Ln:=@Int.le_refl
def Pq:=@Int.emod_nonneg
def Pn:=@Bool.eq_iff_iff
def Rp:=@of_decide_eq_true
def Oa:=@Int.mul_assoc
def ZC:=@wpAny_letOwnedTupleGo_enum
def Y_:=@Int.fdiv_eq_ediv_of_nonneg
def Y9:=@List.getElem?_append_left
def Ro:=@List.lookup_cons
def Vy:=@List.replicate_succ
def Vx:=@Array.length_toList
def Y8:=@PySem.F.args_tuple_add_2
def Y7:=@Int.mul_fdiv_cancel_left
def Pk:=@wpAny_standAt
def Rn:=@wpAny_execs_nil
def Y6:=@wpAny_callSpecial?_slot
def Vw:=@PySem.W.callWith_K
def Y5:=@PySem.F.entry_tuple_add
def Vv:=@Nat.lt_of_le_of_lt
def Rm:=@List.append_nil
def Yz:=@PySem.F.slot_tuple_add
def Yy:=@List.drop_eq_nil_of_le
def Rk:=@wpAny_seqItems
def Yx:=@wpAny_nextOf_list_end
def Yw:=@PySem.W.methodCall_KW
def Yv:=@List.length_singleton
def Yu:=@List.getElem?_reverse
def Pj:=@Int.le_total
def Yt:=@Heap.get?_update_self
def Vu:=@Nat.le_add_right
def Vt:=@List.getElem_mem
def pH:=@Int.mul_le_mul_of_nonneg_left
def Vs:=@Array.toList_inj
def Ys:=@codeAny_call_builtin
def K8:=@boot_str
def OJ:=@typeIs_str
def OD:=@boot_tuple
def Vr:=@wpAny_loadPart'
def Yr:=@ne_true_of_eq_false
def Yq:=@PySem.W.plainGet_of
def Vq:=@List.nodup_cons
def Vp:=@List.mem_filter
def Yp:=@List.length_reverse
def Vo:=@List.find?_cons
def Yo:=@List.filterMap_cons
def pG:=@Int.mul_lt_mul_of_pos_right
def Vn:=@Int.emod_two_eq
def pF:=@List.getElem?_append_right
def Yn:=@wpAny_pyIter_tuple
def Ym:=@Nat.xor_lt_two_pow
def Rj:=@Int.zero_add
def Ri:=@Int.pow_succ
def Rh:=@Int.le_trans
def Yl:=@Int.emod_lt_of_pos
def Yk:=@Bool.false_eq_true
def Yj:=@wpAny_assign_Name
def Yi:=@List.append_assoc
def pD:=@Int.mul_ediv_cancel_left
def pC:=@wpAny_pyNext_enum_itemD
def Vm:=@wpAny_holding
def Vl:=@bitNot_bitNot
def Rc:=@Nat.pow_pos
def Rb:=@Int.one_mul
def Vk:=@Bool.false_or
def Yh:=@wpAny_execs_cons
def Yg:=@wpAny_call_entry
def Ye:=@noFill_tuple_add
def Yd:=@Nat.succ_ne_self
def Yc:=@Nat.gcd_dvd_left
def Yb:=@List.length_drop
def YZ:=@List.any_eq_true
def YX:=@Int.le_max_right
def pB:=@wpAny_pyNext_enum_endD
def pA:=@wpAny_nextOf_list_item
def o_:=@subscriptTail_builtinR
def o8:=@codeAny_compStart_list
def o7:=@PySem.W.cellsFrom_some
def ou:=@PySem.F.type_str_split
def oh:=@PySem.F.slot_str_split
def oZ:=@Nat.le_mul_of_pos_left
def oY:=@List.getElem?_set_self
def oX:=@List.filter_eq_nil_iff
def oW:=@wpAny_isTrue_Compare1
def oU:=@weight_type_call_type
def oR:=@exec_Assign_Name_used
def Ph:=@boot_list
def oO:=@Nat.le_of_ble_eq_true
def Vj:=@Nat.gcd_comm
def YW:=@List.of_mem_zip
def YT:=@Int.natCast_mul
def YS:=@Bool.or_eq_true
def Ra:=@call_meets
def YQ:=@wpAny_setField
def YM:=@boot_enumerate
def Vi:=@Nat.one_pos
def Vh:=@Nat.le_succ
def Vg:=@Int.pow_pos
def Vf:=@Int.neg_mul
def YL:=@seq_tuple_add
def Pg:=@if_false
def YK:=@List.any_cons
def YJ:=@Bool.or_false
def Ve:=@wpAny_call
def N_:=@if_true
def YH:=@wpAny_typeOf
def YG:=@concat_meets
def YF:=@Nat.le_of_lt
def YD:=@Nat.le_of_eq
def YC:=@List.map_nil
def YB:=@Int.ne_of_gt
def RZ:=@boot_int
end
set_option Elab.async false
set_option maxRecDepth 100000
namespace L2
abbrev Key:=Sum Int Str
noncomputable def Gd:Key->Value->Bool
 | .inl k,v=>Value.isInt k v
 | .inr x,v=>Value.isStrOf x v
noncomputable def ZR (w:W1):Key->Int
 | .inl k=>hashInt k
 | .inr x=>hashStr w x
theorem Ms:∀{k:Key}{v:W2},Gd k v=true->(∃i t,k=Sum.inl i/\v=Value.int i t)\/(∃x t,k=Sum.inr x/\v=Value.str x t)
 | .inl i,v,h=>by
  obtain⟨t,e⟩:=Value.isInt_shape (k:=i) (v:=v) h;exact .inl ⟨i,t,U,e⟩
 | .inr x,v,h=>by
  obtain⟨t,e⟩:=Value.isStrOf_shape (x:=x) (v:=v) h;exact .inr ⟨x,t,U,e⟩
theorem Y5l(i:Int)(t:Tok):Gd (.inl i) (.int i t)=true:=by simp[Gd,Value.isInt]
theorem lR(x:Str)(t:Tok):Gd (.inr x) (.str x t)=true:=by simp[Gd,Value.isStrOf]
theorem X6w(a b:Int):decide ((Sum.inl a:Key)=Sum.inl b)=(a == b):=by
 by_cases e:a=b
 ·subst e;simp
 ·have h:¬ (Sum.inl a:Key)=Sum.inl b:=λq=>e (Sum.inl.inj q);rw[FZ h];exact(beq_eq_false_iff_ne.mpr e).symm
theorem X6t(a b:Str):decide ((Sum.inr a:Key)=Sum.inr b)=decide (a=b):=by
 by_cases e:a=b
 ·subst e;simp
 ·have h:¬ (Sum.inr a:Key)=Sum.inr b:=λq=>e (Sum.inr.inj q);rw[FZ h,FZ e]
theorem X6v(a:Int)(b:Str):decide ((Sum.inl a:Key)=Sum.inr b)=false:=FZ (λq=>nomatch q)
theorem X6u(a:Str)(b:Int):decide ((Sum.inr a:Key)=Sum.inl b)=false:=FZ (λq=>nomatch q)
noncomputable def Nv (prog:U8)(w:W1):PySem.KeyKind prog w Key where
 is:=Gd
 hash:=ZR w
 inj:=λv a b ha hb=>by
  rcases Ms ha with ⟨i,t,rfl,rfl⟩ | ⟨x,t,rfl,rfl⟩
  ·rcases Ms hb with ⟨j,u,rfl,e⟩ | ⟨y,u,rfl,e⟩
   ·injection e with e1 _;rw[e1]
   ·exact nomatch e
  ·rcases Ms hb with ⟨j,u,rfl,e⟩ | ⟨y,u,rfl,e⟩
   ·exact nomatch e
   ·injection e with e1 _;rw[e1]
 byValue:=λk v h=>by
  rcases Ms h with ⟨i,t,rfl,rfl⟩ | ⟨x,t,rfl,rfl⟩<;>rfl
 pyHash:=λhv h=>by
  rcases Ms hv with ⟨i,t,rfl,rfl⟩ | ⟨x,t,rfl,rfl⟩
  ·exact wpAny_pyHash_int h
  ·exact wpAny_pyHash_str h
 eqBool:=λhu hv h=>by
  rcases Ms hu with ⟨i,t,rfl,rfl⟩ | ⟨x,t,rfl,rfl⟩
  ·rcases Ms hv with ⟨j,u,rfl,rfl⟩ | ⟨y,u,rfl,rfl⟩
   ·rw[X6w]at h;exact wpAny_eqBool_int h
   ·rw[X6v]at h;exact SeqAt.EqAt.int_str i t y u _ _ _ _ h
  ·rcases Ms hv with ⟨j,u,rfl,rfl⟩ | ⟨y,u,rfl,rfl⟩
   ·rw[X6u]at h;exact SeqAt.EqAt.str_int x t j u _ _ _ _ h
   ·rw[X6t]at h;exact wpAny_eqBool_str h
 «strs»:=λk x t v h=>by
  rcases Ms h with ⟨i,u,rfl,e⟩ | ⟨y,u,rfl,e⟩
  ·exact nomatch e
  ·injection e with e1 _
   subst e1
   cases v<;>rfl
theorem zM(prog:U8)(w:W1)(i:Int)(t:Tok):(Nv prog w).is (.inl i) (.int i t)=true:=Y5l i t
theorem zN(prog:U8)(w:W1)(x:Str)(t:Tok):(Nv prog w).is (.inr x) (.str x t)=true:=lR x t
inductive V where
 | non | bl (b:Bool) | int (i:Int) | str (x:Str) | byt (b:Array UInt8) | flt (b:UInt64) | ref (a:Y0) | ty (n:String)
 deriving DecidableEq
def RelV:V->Value->Prop
 | .non,u=>u=Value.none
 | .bl b,u=>u=Value.bool b
 | .int i,u=>∃t,u=Value.int i t
 | .str x,u=>∃t,u=Value.str x t
 | .byt b,u=>∃t,u=Value.bytes b t
 | .flt b,u=>∃t,u=Value.float b t
 | .ref a,u=>u=Value.ref a
 | .ty n,u=>u=Value.type n
abbrev Vals:List V->List Value->Prop:=Paired RelV
variable{xs:List V}{us:U5}
theorem Vals.length(r:Vals xs us):xs.length=us.length:=Paired.length r
theorem Vals.get:∀{xs:List V}{us:U5}{i:Nat}{x:V},Vals xs us->xs[i]?=some x->∃u,us[i]?=some u/\RelV x u
 | _,_,_,_,.nil,e=>by simp at e
 | _,_,0,_,.cons r _,e=>by simp at e;subst e;exact⟨_,rfl,r⟩
 | _,_,i+1,x,.cons _ t,e=>by
  obtain⟨u,h1,h2⟩:=Vals.get (i:=i) (x:=x) t (by simpa using e);exact⟨u,by simpa using h1,h2⟩
theorem Vals.append:∀{xs ys:List V}{us ws:U5},Vals xs us->Vals ys ws->Vals (xs++ys) (us++ws)
 | _,_,_,_,.nil,s=>s
 | _,_,_,_,.cons r t,s=>.cons r (Vals.append t s)
theorem Vals.take:∀{xs:List V}{us:U5} (n:Nat),Vals xs us->Vals (xs.take n) (us.take n)
 | _,_,0,_=>.nil
 | _,_,_+1,.nil=>.nil
 | _,_,n+1,.cons r t=>.cons r (Vals.take n t)
theorem Vals.drop:∀{xs:List V}{us:U5} (n:Nat),Vals xs us->Vals (xs.drop n) (us.drop n)
 | _,_,0,r=>r
 | _,_,_+1,.nil=>.nil
 | _,_,n+1,.cons _ t=>Vals.drop n t
def D_:Option V->Option Value->Prop
 | some v,some u=>RelV v u
 | none,none=>True
 | _,_=>False
def KV {κ:Type}:List (κ×V)->List (κ×Value)->Prop:=Paired λ(p:κ×V) (q:κ×Value)=>p.1=q.1/\RelV p.2 q.2
noncomputable def kV:Key->V
 | .inl i=>.int i
 | .inr x=>.str x
inductive HO where
 | lst (xs:List V)
 | tup (xs:List V)
 | dK (kvs:List (Key×V)) | dT (kvs:List (List Key×V))
 | set (S:Int->Bool) (n:Nat)
 | ins (C dx:Y0) (fs:List (Str×V))
 | own (x:Y0)
 | xd (fs:List (Str×V))
 | met (f x:Y0)
 | rng (lo hi:Int)
 | frz (o:Obj) (u:HO)
 | tbl (ps:U9)
 | ext (φ:Heap->Prop)
abbrev Hp:=Addr->Option HO
noncomputable def upd (H:Hp)(a:Y0)(o:HO):Hp:=λb=>if b=a then some o else H b
variable{H:Hp}{a:Y0}{o:HO}
theorem Ao:upd H a o a=some o:=by unfold upd;rw[if_pos rfl]
variable{b:Y0}
theorem CK(h:b≠a):upd H a o b=H b:=by unfold upd;rw[if_neg h]
variable{u:HO}
theorem uN:upd (upd H a o) a u=upd H a u:=by
 funext b;unfold upd;split<;>rfl
theorem Gg(h:H a=some o)(h':H b=some u)(d:o≠u):a≠b:=by
 intro e;subst e;rw[h]at h';exact d (Option.some.inj h')
theorem JF(h:H a=some o)(h':H b=none):a≠b:=by
 intro e;subst e;rw[h]at h';cases h'
section
variable (P:U8) (w:W1)
def B_ (H:Hp)(h:Heap)(a:Y0):HO->Prop
 | .lst xs=>xs.length<=sizeLine/\∃(its:U5) (n:Nat),Vals xs its/\h.get? a=some { cls:=.type "list",data:=.seq its.toArray n}
 | .tup xs=>xs.length<=sizeLine/\∃its:List Value,Vals xs its/\IsTup h a its.toArray
 | .dK kvs=>kvs.length<=sizeLine/\(a == sysModules)=false/\∃vs,KV kvs vs/\h.DictOf (Nv P w) a vs
 | .dT kvs=>kvs.length<=sizeLine/\(a == sysModules)=false/\∃xs:List (List Key×Addr×Value),
   Paired (λ(p:List Key×V) (q:List Key×Addr×Value)=>p.1=q.1/\H q.2.1=some (.tup (p.1.map kV))/\RelV p.2 q.2.2) kvs xs /\
   ∃o es ep,h.get? a=some o/\o.ExactDict/\o.data=.dict es ep/\es.toList=xs.map (entryOfKey (tupleKind (Nv P w)))/\(xs.map (·.1)).Nodup
 | .set S n=>h.SetOf (intKind P w) a S n
 | .ins C dx fs=>H dx=some (.own a)/\fs.length<=1000/\dx≠a/\h.get? a=some (PySem.W.instObj C dx) /\
   ∃mA,h.Ns1 dx mA/\(∀f,D_ (fs.lookup f) (mA f))/\PySem.Within mA (fs.map (·.1))
 | .own _=>∃o,h.get? a=some o
 | .xd fs=>∃mA,h.Ns1 a mA/\∀f,D_ (fs.lookup f) (mA f)
 | .rng lo hi=>∃t u v,h.get? a=some { cls:=.type "range",data:=.fields #[.int lo t,.int hi u,.int 1 v]}
 | .frz o u=>h.get? a=some o/\B_ H h a u
 | .tbl ps=>h.get? a=some { cls:=.none,data:=.fields ps}
 | .met f x=>h.get? a=some (PySem.W.methodObj (.ref f) (.ref x))
 | .ext φ=>φ h/\(∃o,h.get? a=some o)/\∀h1 h2:Heap,φ h1->(∀o,h1.get? a=some o->h2.get? a=some o)->φ h2
def FJ (H:Hp)(h:Heap):Prop:=∀a o,H a=some o->B_ P w H h a o
end
section
variable {P:U8}{w:W1}{H H':Hp}{h h':Heap}{a:Y0}{o:HO}
theorem B_.lt(x:B_ P w H h a o):a<h.objs.size:=by
 cases o with
 | lst xs=>obtain⟨_,_,_,_,e⟩:=x;exact Bv e
 | tup xs=>obtain⟨_,_,_,p⟩:=x;exact p.lt
 | dK kvs=>obtain⟨_,_,_,_,o,_,_,e,_⟩:=x;exact Bv e
 | dT kvs=>obtain⟨_,_,_,_,o,_,_,e,_⟩:=x;exact Bv e
 | set S n=>obtain⟨o,_,_,_,e,_⟩:=x;exact Bv e
 | ins C dx fs=>obtain⟨_,_,_,e,_⟩:=x;exact Bv e
 | own y=>obtain⟨_,e⟩:=x;exact Bv e
 | xd fs=>obtain⟨_,⟨_,_,_,e,_⟩,_⟩:=x;exact Bv e
 | rng lo hi=>obtain⟨_,_,_,e⟩:=x;exact Bv e
 | frz ob u=>obtain⟨e,_⟩:=x;exact Bv e
 | tbl ps=>exact Bv (show h.get? a=some _ from x)
 | met f y=>exact Bv (show h.get? a=some _ from x)
 | ext φ=>obtain⟨_,⟨_,e⟩,_⟩:=x;exact Bv e
theorem Paired.mapP{α β:Type}{F G:α->β->Prop}:∀{l₁:List α}{l₂:List β},Paired F l₁ l₂->(∀a b,F a b->G a b)->Paired G l₁ l₂
 | _,_,.nil,_=>.nil
 | _,_,.cons r t,f=>.cons (f _ _ r) (Paired.mapP t f)
theorem Paired.imp'{α β:Type}{F G:α->β->Prop}(f:∀a b,F a b->G a b){l₁:List α}{l₂:List β}(r:Paired F l₁ l₂):Paired G l₁ l₂:=Paired.mapP r f
theorem B_.stay(x:B_ P w H h a o)(k:∀b u,(b=a\/H b=some (.own a))->h.get? b=some u->h'.get? b=some u)
  (ho:∀b,H b=some (.own a)->H' b=some (.own a)) (ht:∀b xs,H b=some (.tup xs)->H' b=some (.tup xs)):B_ P w H' h' a o:=by
 induction o with
 | lst xs=>obtain⟨z,its,n,r,e⟩:=x;exact⟨z,its,n,r,k _ _ (.inl rfl) e⟩
 | tup xs=>obtain⟨z,its,r,g,e,c⟩:=x;exact⟨z,its,r,g,k _ _ (.inl rfl) e,c⟩
 | dK kvs=>obtain⟨z,y,vs,r,g,es,ep,e,c⟩:=x;exact⟨z,y,vs,r,g,es,ep,k _ _ (.inl rfl) e,c⟩
 | dT kvs =>
  obtain⟨z,y,xs,r,g,es,ep,e,c⟩:=x;exact⟨z,y,xs,Paired.mapP r λp q z=>⟨z.1,ht _ _ z.2.1,z.2.2⟩,g,es,ep,k _ _ (.inl rfl) e,c⟩
 | set S n=>obtain⟨g,es,ep,t,e,c⟩:=x;exact⟨g,es,ep,t,k _ _ (.inl rfl) e,c⟩
 | ins C dx fs =>
  obtain⟨d,z,j,e,mA,⟨i,es,ep,l,c⟩,r⟩:=x;exact⟨ho _ d,z,j,k _ _ (.inl rfl) e,mA,⟨i,es,ep,k _ _ (.inr d) l,c⟩,r⟩
 | own y=>obtain⟨g,e⟩:=x;exact⟨g,k _ _ (.inl rfl) e⟩
 | xd fs=>obtain⟨mA,⟨i,es,ep,e,c⟩,r⟩:=x;exact⟨mA,⟨i,es,ep,k _ _ (.inl rfl) e,c⟩,r⟩
 | rng lo hi=>obtain⟨t,u,v,e⟩:=x;exact⟨t,u,v,k _ _ (.inl rfl) e⟩
 | frz g u ih=>obtain⟨e,q⟩:=x;exact⟨k _ _ (.inl rfl) e,ih q⟩
 | tbl ps =>
  have e:h.get? a=some { cls:=.none,data:=.fields ps}:=x;show h'.get? a=some { cls:=.none,data:=.fields ps};exact k a _ (.inl rfl) e
 | met f y =>
  have e:h.get? a=some (PySem.W.methodObj (.ref f) (.ref y)):=x;show h'.get? a=some (PySem.W.methodObj (.ref f) (.ref y));exact k a _ (.inl rfl) e
 | ext φ=>obtain⟨p,⟨o,e⟩,st⟩:=x;exact⟨st _ _ p λo q=>k _ _ (.inl rfl) q,⟨o,k _ _ (.inl rfl) e⟩,st⟩
theorem FJ.lt(x:FJ P w H h)(e:H a=some o):a<h.objs.size:=(x a o e).lt
theorem FJ.fresh(x:FJ P w H h)(e:h.objs.size<=a):H a=none:=by
 cases q:H a with
 | none=>rfl
 | some u=>exact absurd (GC (x.lt q) e) (M_ _)
theorem FJ.kept(x:FJ P w H h)(k:∀b u,h.get? b=some u->h'.get? b=some u):FJ P w H h':=λa o e =>
 (x a o e).stay (λb u _ q=>k b u q) (λ_ q=>q) λ_ _ q=>q
theorem FJ.laid(x:FJ P w H h)(k:∀b u,h.get? b=some u->h'.get? b=some u)(hp:h.objs.size<=a)(new:B_ P w (upd H a o) h' a o):FJ P w (upd H a o) h':=λb u e=>by
 have d:=x.fresh hp;by_cases hb:b=a
 ·subst hb;rw[Ao]at e;cases e;exact new
 ·rw[CK hb]at e;exact(x b u e).stay (λc v _ q=>k c v q) (λc q=>by rw[CK (JF q d)];exact q) λc xs q=>by rw[CK (JF q d)];exact q
end
def Rd (H:Hp)(a:Y0)(u:HO):Prop:=H a=some u\/∃o,H a=some (.frz o u)
variable{P:U8}{w:W1}{h:Heap}
theorem Rd.ok(r:Rd H a u)(x:FJ P w H h):B_ P w H h a u:=by
 rcases r with r | ⟨o,r⟩
 ·exact x a u r
 ·obtain⟨_,q⟩:=x a _ r;exact q
def Xf:Option HO->Prop
 | some (.lst _)=>True
 | some (.dK _)=>True
 | some (.dT _)=>True
 | some (.set _ _)=>True
 | some (.ins _ _ _)=>True
 | some (.ext _)=>True
 | _=>False
section
variable {P:U8}{w:W1}{H:Hp}{h h':Heap}{x e:Y0}{o':HO}
theorem FJ.write(ok:FJ P w H h)(mu:Xf (H x))(he:e=x\/H e=some (.own x))(k:∀b u,b≠e->h.get? b=some u->h'.get? b=some u)(heo:∃u,h'.get? e=some u)
  (new:B_ P w (upd H x o') h' x o'):FJ P w (upd H x o') h':=λb u q=>by
 have a:∀c y,H c=some (.own y)->c≠x:=λc y r z=>by subst z;rw[r]at mu;exact mu
 have d:∀c xs,H c=some (.tup xs)->c≠x:=λc xs r z=>by subst z;rw[r]at mu;exact mu
 by_cases hb:b=x
 ·subst hb;rw[Ao]at q;cases q;exact new
 ·rw[CK hb]at q;by_cases hbe:b=e
  ·have g:H b=some (.own x):=by
    rcases he with z | z
    ·exact absurd (hbe.trans z) hb
    ·rw[hbe];exact z
   rw[q]at g;cases g;obtain⟨v,i⟩:=heo;exact⟨v,by rw[hbe];exact i⟩
  ·refine(ok b u q).stay (λc v f r=>k c v ?_ r) (λc r=>by rw[CK (a c b r)];exact r) λc xs r=>by rw[CK (d c xs r)];exact r
   rcases f with rfl | f
   ·exact hbe
   ·rintro rfl;rcases he with z | z
    ·exact a c b f z
    ·rw[f]at z;cases z;exact hb rfl
end
structure Un (fs ex:U3) (H H':Hp) (h h':Heap):Prop where
 keep:∀b o,h.get? b=some o->H b=none->b∉fs->b∉ex->h'.get? b=some o
 slot:∀b o,h.get? b=some o->H b=none->b∈fs->b∉ex->∃sl,h'.get? b=some {o with slots:=sl}
 free:∀b o,h.get? b=some o->H b=none->b∉ex->H' b=none
 there:∀b o,h.get? b=some o->b∉ex->∃o',h'.get? b=some o'
 tups:∀b xs,H b=some (.tup xs)->H' b=some (.tup xs)
 frzs:∀b o u,H b=some (.frz o u)->H' b=some (.frz o u)
 tbls:∀b ps,H b=some (.tbl ps)->∃more,H' b=some (.tbl (ps++more))
section
variable {fs fs' ex ex':U3}{H H1 H2:Hp}{h h1 h2 h':Heap}{a x e:Y0}{o:HO}
theorem Un.any(u:Un fs ex H H1 h h1){ob:Obj}(q:h.get? b=some ob)(n:H b=none)(hx:b∉ex):∃sl,h1.get? b=some {ob with slots:=sl}:=by
 by_cases hb:b∈fs
 ·exact u.slot b ob q n hb hx
 ·exact⟨ob.slots,u.keep b ob q n hb hx⟩
theorem Un.kept(k:∀b u,h.get? b=some u->h'.get? b=some u):Un fs ex H H h h' :=
 ⟨λb a q _ _ _=>k b a q,λb a q _ _ _=>⟨a.slots,k b a q⟩,λ_ _ _ n _=>n,λb a q _=>⟨a,k b a q⟩,λ_ _ q=>q,λ_ _ _ q=>q,λ_ ps q=>⟨#[],by rw[q];simp⟩⟩
theorem Un.refl:Un fs ex H H h h:=Un.kept λ_ _ q=>q
theorem Un.laid(k:∀b u,h.get? b=some u->h'.get? b=some u)(hp:h.objs.size<=a)(hn:H a=none):Un fs ex H (upd H a o) h h' where
 keep:=λb u q _ _ _=>k b u q
 slot:=λb u q _ _ _=>⟨u.slots,k b u q⟩
 free:=λb u q n _=>by rw[CK (Cw (GC (Bv q) hp))];exact n
 there:=λb u q _=>⟨u,k b u q⟩
 tups:=λb xs q=>by rw[CK (JF q hn)];exact q
 frzs:=λb u xs q=>by rw[CK (JF q hn)];exact q
 tbls:=λb ps q=>⟨#[],by rw[CK (JF q hn),q];simp⟩
theorem Un.write(mu:Xf (H x))(he:e=x\/H e=some (.own x))(k:∀b u,b≠e->h.get? b=some u->h'.get? b=some u)(heo:∃u,h'.get? e=some u):Un fs ex H (upd H x o) h h':=by
 have c:∀b,H b=none->b≠x:=λb n z=>by subst z;rw[n]at mu;exact mu
 have hb:∀b,H b=none->b≠e:=λb n z=>by
  subst z;rcases he with r | r
  ·exact c b n r
  ·rw[n]at r;cases r
 have a:∀b u,H b=some u->¬ Xf (some u)->b≠x:=λb u q nm z=>by subst z;rw[q]at mu;exact nm mu
 refine⟨λb u q n _ _=>k b u (hb b n) q,λb u q n _ _=>⟨u.slots,k b u (hb b n) q⟩,λb u q n _=>by rw[CK (c b n)];exact n,λb u q _=>?_,
  λb xs q=>by rw[CK (a b _ q λz=>z)];exact q,λb u xs q=>by rw[CK (a b _ q λz=>z)];exact q,λb ps q=>⟨#[],by rw[CK (a b _ q λz=>z),q];simp⟩⟩
 by_cases hbe:b=e
 ·subst hbe;exact heo
 ·exact⟨u,k b u hbe q⟩
end
noncomputable def Vd (h:Heap)(H:Hp):List Addr:=(List.range h.objs.size).filter λa=>(H a).isSome
noncomputable def Gr (h:Heap)(H:Hp):Heap:=PySem.W.hideAll h (Vd h H)
theorem Y5r(h:Heap)(H:Hp):(Gr h H).objs.size=h.objs.size:=PySem.W.hideAll_size _ _
variable{o:Obj}
theorem _K(e:h.get? b=some o)(n:H b=none):(Gr h H).get? b=some o :=
 PySem.W.hideAll_get _ e λa=>by
  have q:(H b).isSome=true:=(Vp.mp a).2;rw[n]at q;simp at q
theorem X3h(e:(Gr h H).get? b=some o):h.get? b=some o/\H b=none:=by
 have a:h.get? b=some o:=PySem.W.of_hideAll (Vd h H) e;refine⟨a,?_⟩;cases q:H b with
 | none=>rfl
 | some x =>
  have c:b∈Vd h H:=Vp.mpr ⟨Fq.mpr (Bv a),by simp[q]⟩;have z:(Gr h H).get? b=none:=PySem.W.hideAll_none (Vd h H) c;rw[z]at e;cases e
structure Mod (K:U0) (mg:U4) (base:Heap):Prop where
 kin:K.In base
 glob:base.Ns mainGlobals mg
 blt:∃mb,base.Ns builtinsNs mb/\∀x:Str,x≠"__name__"->mb x=bootBuiltins x
 nolimit:base.NoLimit
structure Cx where
 prog:Program
 w:World
 K:U0
 mg:Str->Option Value
 base:Heap
 A:Around
 N:List Str
 s₀:Shared
 H₀:Hp
 env:Env
 outer:List Env
 stack:List Env
 ex:List Addr
 fn:Str->Bool
 calm:Bool
 pn:List (Addr×Obj)
 xe:Value->Shared->Prop
noncomputable def frs (l:List Env):List Addr:=l.filterMap (·.frame)
noncomputable abbrev Cx.fs (X:Cx):List Addr:=frs X.outer
def Xd (sc:Scope)(x:Str):Prop:=sc.names.lookup x=some .local\/sc.names.lookup x=some .cell\/sc.names.lookup x=some .free
def Loc (sc:Scope)(x:Str):Prop:=sc.names.lookup x=some .local\/sc.names.lookup x=some .cell
def Look (env:Env)(h:Heap)(m:U4)(x:Str)(u:W2):Prop :=
 (env.kindOf x=some .local/\m x=some u)\/((env.kindOf x=some .cell\/env.kindOf x=some .free)/\∃c,env.cells.lookup x=some c/\h.IsCell c (some u))
structure Cx.Ok (X:Cx):Prop where
 mod:Mod X.K X.mg X.base
 kind:X.env.scope.kind=.function
 glob:X.env.globals=mainGlobals
 blt:X.env.builtins=builtinsNs
 above:X.s₀.heap.objs.size<=X.env.locals
 inj:∀x y c,X.env.cells.lookup x=some c->X.env.cells.lookup y=some c->x=y
 has:∀x,(X.env.kindOf x=some .cell\/X.env.kindOf x=some .free)->∃c,X.env.cells.lookup x=some c
 cab:∀x c,X.fn x=true->X.env.cells.lookup x=some c->X.s₀.heap.objs.size<=c
 hd:X.calm=true->X.A.handled=none
 frames:X.A.frames=some X.stack
 stk:X.stack=X.outer\/(X.stack=X.env::X.outer/\X.env.frame=some X.env.locals)
 exf:∀b∈X.ex,b≠X.env.locals/\∀x c,X.env.cells.lookup x=some c->c≠b
 bs:∀b o,X.base.get? b=some o->X.s₀.heap.get? b=some o/\X.H₀ b=none
 bsz:X.base.objs.size<=X.s₀.heap.objs.size
 noex:∀b o,X.base.get? b=some o->b∉X.ex
 exfs:∀b∈X.ex,b∉X.fs
 funs:X.s₀.heap.FunFrames X.base X.outer
 frf:∀b∈X.fs,X.H₀ b=none
structure Inv (X:Cx) (pins:U1) (σ:List (Option V)) (H:Hp) (s:U7):Prop where
 ok:X.Ok
 os:s.os=X.s₀.os
 bare:AllBare s.gens
 base:Un X.fs X.ex X.H₀ H X.s₀.heap s.heap
 loc:∃m,s.heap.Ns X.env.locals m/\∀(i:Nat) (x:Str) (v:V),X.N[i]?=some x->σ[i]?=some (some v)->Xd X.env.scope x->∃u,RelV v u/\Look X.env s.heap m x u
 cell:∀x c,X.env.cells.lookup x=some c->∃v,s.heap.IsCell c v
 free:H X.env.locals=none
 freeC:∀x c,X.env.cells.lookup x=some c->H c=none
 pin:∀p∈X.pn++pins,s.heap.get? p.1=some p.2/\H p.1=none/\p.1≠X.env.locals/\p.1∉X.fs/\∀v,p.2.data≠.cell v
 hok:FJ X.prog X.w H s.heap
 len:σ.length=X.N.length
section
variable {X:Cx}{pins:U1}{σ:List (Option V)}{H H':Hp}{s:U7}{h':Heap}
theorem Cx.Ok.nofr(ok:X.Ok)(e:X.base.get? b=some o):b∉X.fs:=λhb=>by
 have:=(ok.funs.mem hb).1;rw[e]at this;cases this
theorem Inv.bs(I:Inv X pins σ H s):∀b o,X.base.get? b=some o->s.heap.get? b=some o/\H b=none:=λb o e =>
 ⟨I.base.keep b o (I.ok.bs b o e).1 (I.ok.bs b o e).2 (I.ok.nofr e) (I.ok.noex b o e),I.base.free b o (I.ok.bs b o e).1 (I.ok.bs b o e).2 (I.ok.noex b o e)⟩
theorem Inv.bk(I:Inv X pins σ H s):∀b o,X.base.get? b=some o->s.heap.get? b=some o:=λb o e=>(I.bs b o e).1
theorem Inv.mod(I:Inv X pins σ H s):Mod X.K X.mg X.base:=I.ok.mod
theorem Inv.kIn(I:Inv X pins σ H s):X.K.In s.heap:=I.ok.mod.kin.keeps I.bk
theorem Inv.lt(I:Inv X pins σ H s):X.env.locals<s.heap.objs.size:=let ⟨_,hn,_⟩:=I.loc;hn.lt
theorem Inv.sz(I:Inv X pins σ H s):X.s₀.heap.objs.size<=s.heap.objs.size:=Cv I.ok.above (YF I.lt)
theorem Inv.nofs(I:Inv X pins σ H s)(h:s.heap.objs.size<=a):a∉X.fs:=λhb=>by
 obtain⟨_,o,b,_⟩:=I.ok.funs.mem hb;exact absurd (GC (Bv b) (Cv I.sz h)) (M_ _)
theorem Inv.cne(I:Inv X pins σ H s):∀x c,X.env.cells.lookup x=some c->c≠X.env.locals:=λx c e z=>by
 obtain⟨v,o,f,d⟩:=I.cell x c e;obtain⟨m,⟨o',es,ep,a,b,_⟩,_⟩:=I.loc;rw[z,a]at f;cases f;rw[b]at d;cases d
theorem Inv.funs(I:Inv X pins σ H s):s.heap.FunFrames X.base X.outer:=by
 have all:∀(l:List Env),(∀b∈frs l,b∈X.fs)->X.s₀.heap.FunFrames X.base l->s.heap.FunFrames X.base l:=by
  intro l;induction l with
  | nil=>intro _ _;trivial
  | cons env r ih =>
   intro d k;obtain⟨g,⟨L,o,a,j,h,f⟩,i⟩:=k;have c:L∈X.fs:=d L (by unfold frs;rw[Yo,a];exact Rt);obtain⟨m,e⟩:=I.base.slot L o h (I.ok.frf L c) c λz=>I.ok.exfs L z c;exact⟨g,⟨L,_,a,j,e,f⟩,ih (λb hb=>d b (by unfold frs;rw[Yo,a];exact Hx _ hb)) i⟩
 exact all X.outer (λ_ hb=>hb) I.ok.funs
theorem Inv.stack(I:Inv X pins σ H s):s.heap.FunFrames X.base X.stack:=by
 rcases I.ok.stk with e | ⟨e,hf⟩
 ·rw[e];exact I.funs
 ·rw[e];obtain⟨m,a,_⟩:=I.loc;refine .cons (by rw[I.ok.kind];decide) hf a ?_ I.funs;exact Heap.get?_none_of_le (Cv I.ok.bsz I.ok.above)
theorem Inv.stkSub(I:Inv X pins σ H s):∀b∈frs X.stack,b∈X.env.locals::X.fs:=λb hb=>by
 rcases I.ok.stk with e | ⟨e,hf⟩
 ·rw[e]at hb;exact Hx _ hb
 ·rw[e]at hb;unfold frs at hb;rw[Yo,hf]at hb;exact hb
theorem Inv.stkFree(I:Inv X pins σ H s):∀b∈frs X.stack,H b=none:=λb hb=>by
 rcases Cy.mp (I.stkSub b hb) with e | hb
 ·rw[e];exact I.free
 ·obtain⟨_,o,a,_⟩:=I.ok.funs.mem hb;exact I.base.free b o a (I.ok.frf b hb) λz=>I.ok.exfs b z hb
variable{g':Array GenState}{t':Nat}{d':Drawn}{ch:U3}
theorem Inv.step(I:Inv X pins σ H s)
  (hch:∀b∈ch,(b∈X.ex\/X.s₀.heap.objs.size<=b)/\b≠X.env.locals/\(∀x c,X.env.cells.lookup x=some c->c≠b)/\∀p∈X.pn++pins,p.1≠b)
  (keep:∀b o,b≠X.env.locals->b∉X.fs->b∉ch->s.heap.get? b=some o->H b=none->h'.get? b=some o)
  (slot:∀b o,b≠X.env.locals->b∈X.fs->b∉ch->s.heap.get? b=some o->H b=none->∃D,h'.get? b=some {o with slots:=D}) (free:∀b o,b∉ch->s.heap.get? b=some o->H b=none->H' b=none)
  (there:∀b o,b∉ch->s.heap.get? b=some o->∃o',h'.get? b=some o')
  (tups:∀b xs,H b=some (.tup xs)->H' b=some (.tup xs)) (frzs:∀b o u,H b=some (.frz o u)->H' b=some (.frz o u)) (tbls:∀b ps,H b=some (.tbl ps)->∃more,H' b=some (.tbl (ps++more)))
  (ns:∀m,s.heap.Ns X.env.locals m->h'.Ns X.env.locals m) (hok:FJ X.prog X.w H' h') (hg:AllBare g'):
  Inv X pins σ H' {s with heap:=h',gens:=g',drawn:=d',toks:=t'}:=by
 have A:∀b o,X.s₀.heap.get? b=some o->b≠X.env.locals:=λb o e=>Cw (GC (Bv e) I.ok.above);have h:∀b o,X.s₀.heap.get? b=some o->b∉X.ex->b∉ch:=λb o e a hb=>by
  rcases (hch b hb).1 with z | z
  ·exact a z
  ·exact absurd (GC (Bv e) z) (M_ _)
 have g:∀x c,X.env.cells.lookup x=some c->∀v,s.heap.IsCell c v->h'.IsCell c v:=λx c e v ⟨o,t,B⟩=>by
  have f:c∉ch:=λz=>(hch c z).2.2.1 x c e rfl;by_cases hc:c∈X.fs
  ·obtain⟨D,q⟩:=slot c o (I.cne x c e) hc f t (I.freeC x c e);exact⟨_,q,B⟩
  ·exact⟨o,keep c o (I.cne x c e) hc f t (I.freeC x c e),B⟩
 refine⟨I.ok,I.os,hg,⟨λb o e n hb a=>?_,λb o e n hb a=>?_,λb o e n a=>?_,λb o e a=>?_,λb xs e=>tups b xs (I.base.tups b xs e),λb o xs e=>frzs b o xs (I.base.frzs b o xs e),λb ps e=>?_⟩,?_,λx c e=>?_,?_,λx c e=>?_,λp hp=>?_,hok,I.len⟩
 ·exact keep b o (A b o e) hb (h b o e a) (I.base.keep b o e n hb a) (I.base.free b o e n a)
 ·obtain⟨D,j⟩:=I.base.slot b o e n hb a;obtain⟨C,y⟩:=slot b _ (A b o e) hb (h b o e a) j (I.base.free b o e n a);exact⟨C,y⟩
 ·obtain⟨o',j⟩:=I.base.there b o e a;exact free b o' (h b o e a) j (I.base.free b o e n a)
 ·obtain⟨o',j⟩:=I.base.there b o e a;exact there b o' (h b o e a) j
 ·obtain⟨L,j⟩:=I.base.tbls b ps e;obtain⟨G,y⟩:=tbls b _ j;exact⟨L++G,by rw[y,Array.append_assoc]⟩
 ·obtain⟨m,J,M⟩:=I.loc;refine⟨m,ns m J,λi x v j y K=>?_⟩;obtain⟨u,r,l⟩:=M i x v j y K;refine⟨u,r,?_⟩;rcases l with l | ⟨k,c,e,z⟩
  ·exact .inl l
  ·exact .inr ⟨k,c,e,g x c e _ z⟩
 ·obtain⟨v,z⟩:=I.cell x c e;exact⟨v,g x c e v z⟩
 ·obtain⟨m,⟨o,_,_,t,_⟩,_⟩:=I.loc;exact free _ o (λz=>(hch _ z).2.1 rfl) t I.free
 ·obtain⟨v,o,t,B⟩:=I.cell x c e;exact free c o (λz=>(hch c z).2.2.1 x c e rfl) t (I.freeC x c e)
 ·obtain⟨e,n,F,E,d⟩:=I.pin p hp;have f:p.1∉ch:=λz=>(hch p.1 z).2.2.2 p hp rfl;exact⟨keep p.1 p.2 F E f e n,free p.1 p.2 f e n,F,E,d⟩
theorem Inv.un(I:Inv X pins σ H s)(u:Un X.fs [] H H' s.heap h')(hok:FJ X.prog X.w H' h'):Inv X pins σ H' {s with heap:=h',toks:=t'}:=by
 obtain⟨m,⟨o,es,ep,f,r⟩,_⟩:=id I.loc;obtain⟨k,i⟩:=u.any f I.free (by simp)
 exact I.step (g':=s.gens) (d':=s.drawn) (ch:=[]) (λ_ z=>nomatch z) (λb o _ hb _ e n=>u.keep b o e n hb (by simp)) (λb o _ hb _ e n=>u.slot b o e n hb (by simp)) (λb o _ e n=>u.free b o e n (by simp)) (λb o _ e=>u.there b o e (by simp)) u.tups u.frzs u.tbls (λj h=>by
  obtain⟨o',c,d,a,g⟩:=h
  rw[f]at a;cases a
  exact⟨_,c,d,i,g⟩) hok I.bare
theorem Inv.call(I:Inv X pins σ H s)(u:Un (frs X.stack) ch H H' s.heap h')(hok:FJ X.prog X.w H' h')(hg:AllBare g')
  (hch:∀b∈ch,(b∈X.ex\/X.s₀.heap.objs.size<=b)/\b≠X.env.locals/\(∀x c,X.env.cells.lookup x=some c->c≠b)/\∀p∈X.pn++pins,p.1≠b):
  Inv X pins σ H' {s with heap:=h',gens:=g',drawn:=d',toks:=t'}:=by
 obtain⟨m,⟨o,es,ep,i,r⟩,_⟩:=id I.loc;obtain⟨q,g⟩:=u.any i I.free λz=>(hch _ z).2.1 rfl
 exact I.step (ch:=ch) hch (λb o g hb a e n=>u.keep b o e n (λz=>(Cy.mp (I.stkSub b z)).elim g hb) a) (λb o _ _ a e n=>u.any e n a) (λb o a e n=>u.free b o e n a) (λb o a e=>u.there b o e a) u.tups u.frzs u.tbls (λl k=>by
  obtain⟨o',f,h,d,j⟩:=k
  rw[i]at d;cases d
  exact⟨_,f,h,g,j⟩) hok hg
theorem Inv.turned{it:Y0}(I:Inv X pins σ H s)(k:∀b o,b≠it->s.heap.get? b=some o->h'.get? b=some o)(hn:H it=none)(hL:it≠X.env.locals)
  (h1:it∈X.ex\/X.s₀.heap.objs.size<=it) (h2:∀x c,X.env.cells.lookup x=some c->c≠it) (h3:∀p∈X.pn++pins,p.1≠it):Inv X pins σ H {s with heap:=h',toks:=t'}:=by
 have d:∀b u,H b=some u->b≠it:=λb u e z=>by rw[z,hn]at e;cases e
 refine I.step (g':=s.gens) (d':=s.drawn) (ch:=[it]) (λb hb=>?_) (λb o _ _ a e _=>k b o (λz=>a (by simp[z])) e) (λb o _ _ a e _=>⟨o.slots,k b o (λz=>a (by simp[z])) e⟩) (λ_ _ _ _ n=>n)
  (λb o a e=>⟨o,k b o (λz=>a (by simp[z])) e⟩) (λ_ _ e=>e) (λ_ _ _ e=>e) (λb ps e=>⟨#[],by rw[e];simp⟩) (λm g=>?_) (λb u e=>?_) I.bare
 ·have e:b=it:=by simpa using hb
  subst e;exact⟨h1,hL,h2,h3⟩
 ·obtain⟨o,es,ep,f,r⟩:=g;exact⟨o,es,ep,k _ o (Ne.symm hL) f,r⟩
 ·refine(I.hok b u e).stay (λc v a q=>k c v ?_ q) (λ_ q=>q) λ_ _ q=>q;rcases a with z | z
  ·rw[z];exact d b u e
  ·exact d c _ z
theorem Inv.tok(I:Inv X pins σ H s)(t:Nat):Inv X pins σ H {s with toks:=t}:=I.un (h':=s.heap) (t':=t) Un.refl I.hok
theorem Inv.kept(I:Inv X pins σ H s)(k:∀b u,s.heap.get? b=some u->h'.get? b=some u):Inv X pins σ H {s with heap:=h',toks:=t'}:=I.un (Un.kept k) (I.hok.kept k)
theorem Inv.laid{o:HO}(I:Inv X pins σ H s)(k:∀b u,s.heap.get? b=some u->h'.get? b=some u)(hp:s.heap.objs.size<=a)(new:B_ X.prog X.w (upd H a o) h' a o):
  Inv X pins σ (upd H a o) {s with heap:=h',toks:=t'}:=I.un (Un.laid k hp (I.hok.fresh hp)) (I.hok.laid k hp new)
theorem Inv.write{x e:Y0}{o:HO}(I:Inv X pins σ H s)(mu:Xf (H x))(he:e=x\/H e=some (.own x))(k:∀b u,b≠e->s.heap.get? b=some u->h'.get? b=some u)(heo:∃u,h'.get? e=some u)
  (new:B_ X.prog X.w (upd H x o) h' x o):Inv X pins σ (upd H x o) {s with heap:=h',toks:=t'}:=I.un (Un.write mu he k heo) (I.hok.write mu he k heo new)
theorem Inv.pins_of{pins':U1}(I:Inv X pins σ H s)(h:∀p∈pins',s.heap.get? p.1=some p.2/\H p.1=none/\p.1≠X.env.locals/\p.1∉X.fs/\∀v,p.2.data≠.cell v):Inv X pins' σ H s :=
 ⟨I.ok,I.os,I.bare,I.base,I.loc,I.cell,I.free,I.freeC,λp hp=>(K9.mp hp).elim (λz=>I.pin p (List.mem_append_left _ z)) (h p),I.hok,I.len⟩
variable{i:Nat}{x:Str}
theorem uZ{N:W0}(hN:N.Nodup){j:Nat}(a:N[i]?=some x)(b:N[j]?=some x):i=j:=by
 obtain⟨h1,d⟩:=Fb.mp a;obtain⟨h2,c⟩:=Fb.mp b;exact(List.getElem_inj hN).mp (d.trans c.symm)
variable{Q:Unit->Shared->Prop}
theorem lY{M:Model}{A:W7}{E:U2}{v:V}{u:W2}(I:Inv X pins σ H s)(hN:X.N.Nodup)(hi:X.N[i]?=some x)(B:Loc X.env.scope x)(r:RelV v u)
  (h:∀s',Inv X pins (σ.set i (some v)) H s'->(∃a,Heap.SameBut a s.heap s'.heap/\(a=X.env.locals\/X.env.cells.lookup x=some a))->Q () s') (hf:X.fn x=true\/X.env.scope.names.lookup x=some .local:=by first | exact .inl rfl | exact .inr rfl | assumption):wpAny M A (storeName X.env x u) Q E s:=by
 obtain⟨m,hn,hl⟩:=id I.loc;have O:(X.env.scope.kind == .class || (X.env.scope.kind == .module && X.env.locals != X.env.globals))=false:=by rw[I.ok.kind];rfl
 have K:i<σ.length:=by rw[I.len];exact(Fb.mp hi).1
 have cne:=I.cne;have g:∀{a:Y0}{h':Heap},(∃o,s.heap.get? a=some o/\H a=none)->Heap.SameBut a s.heap h'->FJ X.prog X.w H h':=λ{a h'} ha f b ob e=>by
  obtain⟨_,_,C⟩:=ha;refine(I.hok b ob e).stay (λc R t q=>(f.2 c ?_).trans q) (λ_ q=>q) λ_ _ q=>q;rintro rfl;rcases t with rfl | t
  ·rw[C]at e;cases e
  ·rw[C]at t;cases t
 rcases B with hk | hk
 ·refine wpAny_storeName_local hk hn (λh' a0 f=>?_) O;obtain⟨oL,_,_,S,_⟩:=id hn;refine h _ ⟨I.ok,I.os,I.bare,⟨λb o e n hb B=>?_,λb o e n hb B=>?_,I.base.free,λb o e B=>?_,I.base.tups,I.base.frzs,I.base.tbls⟩,⟨_,a0,λj y T l D e3=>?_⟩,λy c e=>?_,I.free,I.freeC,λp hp=>?_,g ⟨oL,S,I.free⟩ f,by simpa using I.len⟩ ⟨_,f,.inl rfl⟩
  ·exact(f.2 b (Cw (GC (Bv e) I.ok.above))).trans (I.base.keep b o e n hb B)
  ·obtain⟨Z,l⟩:=I.base.slot b o e n hb B;exact⟨Z,(f.2 b (Cw (GC (Bv e) I.ok.above))).trans l⟩
  ·obtain⟨o',l⟩:=I.base.there b o e B;exact⟨o',(f.2 b (Cw (GC (Bv e) I.ok.above))).trans l⟩
  ·by_cases hj:j=i
   ·subst hj;rw[hi]at l;cases l;rw[oY K]at D;cases D;exact⟨u,r,.inl ⟨hk,by simp⟩⟩
   ·rw[List.getElem?_set_ne (Ne.symm hj)]at D;obtain⟨W,Y,q⟩:=hl j y T l D e3;refine⟨W,Y,?_⟩;rcases q with ⟨k,e⟩ | ⟨k,c,e,z⟩
    ·refine .inl ⟨k,?_⟩;have:y≠x:=λe=>hj (uZ hN l (e ▸ hi));simp[this,e]
    ·exact .inr ⟨k,c,e,z.sameBut f (cne y c e)⟩
  ·obtain⟨R,z⟩:=I.cell y c e;exact⟨R,z.sameBut f (cne y c e)⟩
  ·obtain⟨e,n,P,U,d⟩:=I.pin p hp;exact⟨(f.2 p.1 P).trans e,n,P,U,d⟩
 ·have F:X.fn x=true:=by
   rcases hf with z | z
   ·exact z
   ·rw[z]at hk;cases hk
  obtain⟨c,t⟩:=I.ok.has x (.inl hk);obtain⟨R,z⟩:=I.cell x c t;refine wpAny_storeName_cell I.ok.kind hk t z (λh' J f=>?_);obtain⟨oc,L,G⟩:=id z;refine h {s with heap:=h'} ⟨I.ok,I.os,I.bare,⟨λb o e n hb B=>?_,λb o e n hb B=>?_,I.base.free,λb o e B=>?_,I.base.tups,I.base.frzs,I.base.tbls⟩,⟨m,hn.sameBut f (Ne.symm (cne x c t)),λj y T l D e3=>?_⟩,λy c' e=>?_,I.free,I.freeC,λp hp=>?_,g ⟨oc,L,I.freeC x c t⟩ f,by simpa using I.len⟩ ⟨c,f,.inr t⟩
  ·exact(f.2 b (Cw (GC (Bv e) (I.ok.cab x c F t)))).trans (I.base.keep b o e n hb B)
  ·obtain⟨Z,l⟩:=I.base.slot b o e n hb B;exact⟨Z,(f.2 b (Cw (GC (Bv e) (I.ok.cab x c F t)))).trans l⟩
  ·obtain⟨o',l⟩:=I.base.there b o e B;exact⟨o',(f.2 b (Cw (GC (Bv e) (I.ok.cab x c F t)))).trans l⟩
  ·by_cases hj:j=i
   ·subst hj;rw[hi]at l;cases l;rw[oY K]at D;cases D;exact⟨u,r,.inr ⟨.inl hk,c,t,J⟩⟩
   ·rw[List.getElem?_set_ne (Ne.symm hj)]at D;obtain⟨W,Y,q⟩:=hl j y T l D e3;refine⟨W,Y,?_⟩;rcases q with q | ⟨k,c',e,z'⟩
    ·exact .inl q
    ·refine .inr ⟨k,c',e,z'.sameBut f ?_⟩;rintro rfl;exact hj (uZ hN l (I.ok.inj _ _ _ e t ▸ hi))
  ·by_cases hcc:c'=c
   ·subst hcc;exact⟨_,J⟩
   ·obtain⟨w2,z2⟩:=I.cell y c' e;exact⟨w2,z2.sameBut f hcc⟩
  ·obtain⟨e,n,P,U,d⟩:=I.pin p hp;refine⟨(f.2 p.1 ?_).trans e,n,P,U,d⟩;intro q;rw[q,L]at e;have q':oc=p.2:=Option.some.inj e;exact d R (by rw[<-q'];exact G)
theorem u6{M:Model}{A:W7}{E:U2}{v:V}{u:W2}(I:Inv X pins σ H s)(hN:X.N.Nodup)(hi:X.N[i]?=some x)(hx:Loc X.env.scope x)(r:RelV v u)
  (h:∀s',Inv X pins (σ.set i (some v)) H s'->Q () s') (hf:X.fn x=true\/X.env.scope.names.lookup x=some .local:=by first | exact .inl rfl | exact .inr rfl | assumption):wpAny M A (storeName X.env x u) Q E s :=
 lY I hN hi hx r (λs' a _=>h s' a) hf
theorem Inv.call'{s':U7}(I:Inv X pins σ H s)(ho:s'.os=s.os)(u:Un (frs X.stack) ch H H' s.heap s'.heap)(hok:FJ X.prog X.w H' s'.heap)(hg:AllBare s'.gens)
  (hch:∀b∈ch,(b∈X.ex\/X.s₀.heap.objs.size<=b)/\b≠X.env.locals/\(∀x c,X.env.cells.lookup x=some c->c≠b)/\∀p∈X.pn++pins,p.1≠b):Inv X pins σ H' s':=by
 obtain⟨h',g',d',t',o'⟩:=s';have e:o'=s.os:=ho;subst e;exact I.call (g':=g') (t':=t') (d':=d') u hok hg hch
end
abbrev XK:=Value->Option Addr->Hp->Prop
abbrev St:=List (Option V)
abbrev VK:=V->Hp->Prop
abbrev TE:=St->Hp->VK->Prop
abbrev TT:=St->Hp->(Bool->Hp->Prop)->Prop
abbrev TA:=St->Hp->(List V->Hp->Prop)->Prop
structure Ends where
 nx:St->Hp->Prop
 rt:VK
 bk:St->Hp->Prop:=λ_ _=>False
 ct:St->Hp->Prop:=λ_ _=>False
abbrev TS:=Ends->St->Hp->Prop
def EP (X:Cx)(pins:U1)(σ:St)(Q:VK)(u:W2)(s':U7):Prop:=∃v H',Inv X pins σ H' s'/\RelV v u/\Q v H'
def TP (X:Cx)(pins:U1)(σ:St)(Q:Bool->Hp->Prop)(b:Bool)(s':U7):Prop:=∃H',Inv X pins σ H' s'/\Q b H'
def AP (X:Cx)(pins:U1)(σ:St)(Q:List V->Hp->Prop)(us:U5)(s':U7):Prop:=∃vs H',Inv X pins σ H' s'/\Vals vs us/\Q vs H'
def SP (X:Cx)(pins:U1)(D:Ends)(f:Flow)(s':U7):Prop :=
 match f with
 | .next=>∃σ' H',Inv X pins σ' H' s'/\D.nx σ' H'
 | .brk=>∃σ' H',Inv X pins σ' H' s'/\D.bk σ' H'
 | .cont=>∃σ' H',Inv X pins σ' H' s'/\D.ct σ' H'
 | .ret u=>∃v σ' H',Inv X pins σ' H' s'/\RelV v u/\D.rt v H'
def PE (X:Cx)(e:Expr)(t:TE):Prop :=
 ∀(pins:U1) (s:U7) (σ:St) (H:Hp) (Q:VK),Inv X pins σ H s->t σ H Q->wpAny (model X.prog X.w) X.A (eval e X.env) (EP X pins σ Q) X.xe s
def PT (X:Cx)(e:Expr)(t:TT):Prop :=
 ∀(pins:U1) (s:U7) (σ:St) (H:Hp) (Q:Bool->Hp->Prop),Inv X pins σ H s->t σ H Q->wpAny (model X.prog X.w) X.A (isTrue e X.env (eval e X.env)) (TP X pins σ Q) X.xe s
def PW (X:Cx)(e:Expr)(t:TT):Prop :=
 ∀(whole:Sem Value) (pins:U1) (s:U7) (σ:St) (H:Hp) (Q:Bool->Hp->Prop),Inv X pins σ H s->t σ H Q->wpAny (model X.prog X.w) X.A (isTrue e X.env whole) (TP X pins σ Q) X.xe s
variable{X:Cx}{e:Expr}
theorem PW.pt{t:TT}(h:PW X e t):PT X e t:=h _
def PA (X:Cx)(es:List Expr)(t:TA):Prop :=
 ∀(pos:Pos) (pins:U1) (s:U7) (σ:St) (H:Hp) (Q:List V->Hp->Prop),Inv X pins σ H s->t σ H Q->wpAny (model X.prog X.w) X.A (spliced (backTo pos (starEach es X.env))) (AP X pins σ Q) X.xe s
def PS (X:Cx)(st:Stmt)(t:TS):Prop :=
 ∀(pins:U1) (s:U7) (σ:St) (H:Hp) (D:Ends),Inv X pins σ H s->t D σ H->wpAny (model X.prog X.w) X.A (exec st X.env) (SP X pins D) X.xe s
def GF (X:Cx)(st:W9)(t:TS):Prop :=
 ∀(pins:U1) (s:U7) (σ:St) (H:Hp) (D:Ends),Inv X pins σ H s->t D σ H->wpAny (model X.prog X.w) X.A (execs st X.env) (SP X pins D) X.xe s
variable{A:W7}{E:U2}{s:U7}
theorem BW{α:Type}{t:Sem α}{Q Q':α->Shared->Prop}{M:Model}(h:wpAny M A t Q E s)(hQ:∀a s,Q a s->Q' a s):wpAny M A t Q' E s:=Ep h hQ λ_ _ x=>x
section
variable {X:Cx}
def Gi (i:Nat):TE:=λσ H Q=>∃v,σ[i]?=some (some v)/\Q v H
def tC (v:V):TE:=λ_ H Q=>Q v H
variable{x:Str}
theorem X5w{i:Nat}{pos:Pos}(hN:X.N[i]?=some x)(hv:Xd X.env.scope x)(hd:(x == ("__debug__":Str))=false:=by decide)(hcd:(x == ("__classdict__":Str))=false:=by decide):PE X (.Name x pos) (Gi i):=by
 intro pins s σ H Q I h;obtain⟨v,e,h⟩:=h;obtain⟨m,d,b⟩:=I.loc;obtain⟨u,r,l⟩:=b i x v hN e hv;have a:EP X pins σ Q u s:=⟨v,H,I,r,h⟩;rcases l with ⟨hk,hm⟩ | ⟨hk,c,hc,hcell⟩
 ·exact wpAny_Name (wpAny_loadName_local I.ok.kind hk d hm a) hd
 ·rcases hk with hk | hk
  ·exact wpAny_Name (wpAny_loadName_cell I.ok.kind hk hc hcell a) hd
  ·exact wpAny_Name (wpAny_loadName_free I.ok.kind hk hc hcell a hcd) hd
theorem Ad{i j pos}:PE X (.Constant (.int i) j pos) (tC (.int i)):=λ_ _ _ H _ I h=>wpAny_Constant_int ⟨.int i,H,I.tok _,⟨_,U⟩,h⟩
theorem Ji{b j pos}:PE X (.Constant (.bool b) j pos) (tC (.bl b)):=λ_ _ _ H _ I h=>Constant_bool ⟨.bl b,H,I,U,h⟩
theorem mR{j pos}:PE X (.Constant .none j pos) (tC .non):=λ_ _ _ H _ I h=>Constant_none ⟨.non,H,I,U,h⟩
theorem Cg{x j pos}:PE X (.Constant (.str x) j pos) (tC (.str x)):=λ_ _ _ H _ I h=>Calls.Constant_str ⟨.str x,H,I.tok _,⟨_,U⟩,h⟩
def Gl (X:Cx)(x:Str):Prop:=X.env.kindOf x=some .globalImplicit
variable{u:W2}{Q:U2}
theorem WM{pins:U1}{σ:St}{pos:Pos}(I:Inv X pins σ H s)(hg:Gl X x)(hm:X.mg x=some u)(h:Q u s)
  (hd:(x == ("__debug__":Str))=false:=by decide):wpAny (model X.prog X.w) X.A (eval (.Name x pos) X.env) Q E s :=
 Calls.Name_function_global I.ok.kind hg (Calls.loadGlobal_global (by rw[I.ok.glob];exact I.mod.glob.keeps I.bk) hm h) hd
theorem Mi{pins:U1}{σ:St}{pos:Pos}(I:Inv X pins σ H s)(hg:Gl X x)(hm:X.mg x=none)(hv:bootBuiltins x=some u)(h:Q u s)
  (hn:x≠"__name__":=by decide) (hd:(x == ("__debug__":Str))=false:=by decide):wpAny (model X.prog X.w) X.A (eval (.Name x pos) X.env) Q E s:=by
 obtain⟨a,h1,h2⟩:=I.mod.blt;exact Calls.Name_function_global I.ok.kind hg (Calls.loadGlobal_builtin (by rw[I.ok.glob];exact I.mod.glob.keeps I.bk) hm (by rw[I.ok.blt];exact h1.keeps I.bk) ((h2 x hn).trans hv) h) hd
theorem Jw{v:V}{pos:Pos}(hg:Gl X x)(hm:X.mg x=some u)(r:RelV v u)(hd:(x == ("__debug__":Str))=false:=by decide):PE X (.Name x pos) (tC v):=
 λ_ _ _ H _ I h=>WM I hg hm ⟨v,H,I,r,h⟩ hd
theorem I_{v:V}{pos:Pos}(hg:Gl X x)(hm:X.mg x=none)(hv:bootBuiltins x=some u)(r:RelV v u)(hn:x≠"__name__":=by decide)(hd:(x == ("__debug__":Str))=false:=by decide):PE X (.Name x pos) (tC v):=
 λ_ _ _ H _ I h=>Mi I hg hm hv ⟨v,H,I,r,h⟩ hn hd
variable {a b:Expr}{ta tb:TE}{pos:Pos}
def PC (X:Cx)(op:CmpOp)(a b:Expr)(t:TE):Prop :=
 ∀(pins:U1) (s:U7) (σ:St) (H:Hp) (Q:VK),Inv X pins σ H s->t σ H Q ->
  wpAny (model X.prog X.w) X.A (eval a X.env) (λv s₁=>wpAny (model X.prog X.w) X.A (eval b X.env) (λu s₂=>wpAny (model X.prog X.w) X.A (compareOp op v u) (EP X pins σ Q) X.xe s₂) X.xe s₁) X.xe s
def tB (t:TE):TT:=λσ H Q=>t σ H λx H1=>∃c,x=.bl c/\Q c H1
variable{t:TE}
theorem X5r{op:CmpOp}(h:PC X op a b t)(h1:behindInMarks op b=false:=by first | exact nobehind _ (by decide) (by decide) | rfl):PT X (.Compare a [op] [b] pos) (tB t):=by
 intro pins s σ H Q I g;refine oW (BW (h pins s σ H _ I g) λv j h1=>BW h1 λu k h2=>BW h2 λc l ⟨x,H1,e,i,f⟩=>?_) h1;obtain⟨d,rfl,q⟩:=f;cases i;exact Lx ⟨H1,e,q⟩
theorem Dv(h:PE X e t)(he:∀whole,isTrue e X.env whole=(do let v ← whole;standAt e.pos;holding [v] (truthy v)):=by intro _;rfl):PT X e (tB t):=by
 intro pins s σ H Q I b;refine isTrue_plain (BW (h pins s σ H _ I b) λv g ⟨x,H1,c,f,a⟩=>?_) (he _);obtain⟨d,rfl,q⟩:=a;cases f;exact Lx ⟨H1,c,q⟩
variable {tA tB':TT}{rest:List Expr}
def Xu (t u:TT):TT:=λσ H Q=>t σ H λc H1=>if c=true then u σ H1 Q else Q false H1
def yC (t u:TT):TT:=λσ H Q=>t σ H λc H1=>if c=true then Q true H1 else u σ H1 Q
def Xm (t:TT):TT:=λσ H Q=>t σ H λc H1=>Q (!c) H1
theorem QW(ha:PT X a tA):PW X (.BoolOp .And [a] pos) tA:=by
 intro d pins s σ H Q I h;refine isTrue_and (BW (ha pins s σ H Q I h) λc b e=>?_);cases c with
 | true=>exact isTrue_and_nil e
 | false=>exact e
theorem Iw(ha:PT X a tA):PW X (.BoolOp .Or [a] pos) tA:=by
 intro d pins s σ H Q I h;refine isTrue_or (BW (ha pins s σ H Q I h) λc b e=>?_);cases c with
 | false=>exact isTrue_or_nil e
 | true=>exact e
theorem O9(ha:PT X a tA)(hb:PW X (.BoolOp .And (b::rest) pos) tB'):PW X (.BoolOp .And (a::b::rest) pos) (Xu tA tB'):=by
 intro g pins s σ H Q I h;refine isTrue_and (BW (ha pins s σ H _ I h) λc f ⟨H1,e,d⟩=>?_);cases c with
 | true=>exact hb g pins f σ H1 Q e d
 | false=>exact⟨H1,e,d⟩
theorem Fv(ha:PT X a tA)(hb:PW X (.BoolOp .Or (b::rest) pos) tB'):PW X (.BoolOp .Or (a::b::rest) pos) (yC tA tB'):=by
 intro g pins s σ H Q I h;refine isTrue_or (BW (ha pins s σ H _ I h) λc f ⟨H1,e,d⟩=>?_);cases c with
 | true=>exact⟨H1,e,d⟩
 | false=>exact hb g pins f σ H1 Q e d
theorem E_(ha:PT X a tA):PT X (.UnaryOp .Not a pos) (Xm tA):=by
 intro pins s σ H Q I h;exact isTrue_not (ha pins s σ H (λc H1=>Q (!c) H1) I h)
def RJ (ta tb:TE):TE:=λσ H Q=>ta σ H λx H1=>∃c,x=.bl c/\if c=true then tb σ H1 Q else Q (.bl false) H1
def Xl (ta tb:TE):TE:=λσ H Q=>ta σ H λx H1=>∃c,x=.bl c/\if c=true then Q (.bl true) H1 else tb σ H1 Q
def Q8 (ta:TE):TE:=λσ H Q=>ta σ H λx H1=>∃c,x=.bl c/\Q (.bl (!c)) H1
theorem Lb{op}(h:PE X a t):PE X (.BoolOp op [a] pos) t:=λpins s σ H Q I b=>BoolOp_one (h pins s σ H Q I b)
theorem Nr(ha:PE X a ta)(hb:PE X (.BoolOp .And (b::rest) pos) tb):PE X (.BoolOp .And (a::b::rest) pos) (RJ ta tb):=by
 intro pins s σ H Q I h;refine BoolOp_and (BW (ha pins s σ H _ I h) λv f ⟨x,H1,e,g,d⟩=>?_);obtain⟨c,rfl,d⟩:=d;cases g;refine Lx ?_;cases c with
 | true=>exact hb pins f σ H1 Q e d
 | false=>exact⟨.bl false,H1,e,rfl,d⟩
theorem vJ(ha:PE X a ta)(hb:PE X (.BoolOp .Or (b::rest) pos) tb):PE X (.BoolOp .Or (a::b::rest) pos) (Xl ta tb):=by
 intro pins s σ H Q I h;refine BoolOp_or (BW (ha pins s σ H _ I h) λv f ⟨x,H1,e,g,d⟩=>?_);obtain⟨c,rfl,d⟩:=d;cases g;refine Lx ?_;cases c with
 | false=>exact hb pins f σ H1 Q e d
 | true=>exact⟨.bl true,H1,e,rfl,d⟩
theorem wz(ha:PE X a ta):PE X (.UnaryOp .Not a pos) (Q8 ta):=by
 intro pins s σ H Q I h;refine UnaryOp_ (BW (ha pins s σ H _ I h) λv f ⟨x,H1,d,e,b⟩=>?_);obtain⟨c,rfl,b⟩:=b;cases e;exact not_of (Lx ⟨.bl (!c),H1,d,U,b⟩)
def yD (t:TT)(ta tb:TE):TE:=λσ H Q=>t σ H λc H1=>if c=true then ta σ H1 Q else tb σ H1 Q
theorem Lf{c:Expr}(hc:PT X c tA)(ha:PE X a ta)(hb:PE X b tb):PE X (.IfExp c a b pos) (yD tA ta tb):=by
 intro pins s σ H Q I h;refine wpAny_IfExp (BW (hc pins s σ H _ I h) λd f ⟨H1,g,e⟩=>?_);cases d with
 | true=>exact ha pins f σ H1 Q g e
 | false=>exact hb pins f σ H1 Q g e
end
def Af (K:U0)(H:Hp)(a:Y0)(xs:List V):Prop :=
 Rd H a (.lst xs) \/
  ∃(o:Obj) (its:U9) (n:Nat),K.lookup a=some o/\o.cls=.type "list"/\o.dict=none/\o.data=.seq its n/\its.size<=sizeLine/\Vals xs its.toList
def Ah (K:U0)(H:Hp)(a:Y0)(xs:List V):Prop :=
 Rd H a (.tup xs) \/
  ∃(o:Obj) (its:U9) (n:Nat),K.lookup a=some o/\o.cls=.type "tuple"/\o.data=.seq its n/\its.size<=sizeLine/\Vals xs its.toList
noncomputable def jy:Value->Option V
 | .none=>some .non
 | .bool b=>some (.bl b)
 | .int i _=>some (.int i)
 | .str x _=>some (.str x)
 | .bytes b _=>some (.byt b)
 | .float b _=>some (.flt b)
 | .ref a=>some (.ref a)
 | .type n=>some (.ty n)
 | _=>none
variable{x:V}{u:W2}
theorem RelV.abs(r:RelV x u):jy u=some x:=by
 cases x with
 | non=>cases r;rfl
 | bl _=>cases r;rfl
 | int _=>obtain⟨t,rfl⟩:=r;rfl
 | str _=>obtain⟨t,rfl⟩:=r;rfl
 | byt _=>obtain⟨t,rfl⟩:=r;rfl
 | flt _=>obtain⟨t,rfl⟩:=r;rfl
 | ref _=>cases r;rfl
 | ty _=>cases r;rfl
variable{y:V}
theorem RelV.inj(r:RelV x u)(q:RelV y u):x=y:=Option.some.inj (r.abs.symm.trans q.abs)
theorem Vals.inj{ys:List V}(h:Vals xs us)(h':Vals ys us):xs=ys:=by
 induction h generalizing ys with
 | nil=>cases h';rfl
 | cons r t ih=>cases h' with
  | cons r' t'=>rw[r.inj r',ih t']
section
variable {X:Cx}{pins:U1}{σ:St}{H:Hp}{s:U7}{a:Y0}{xs ys:List V}
theorem Af.of{K:U0}(h:H a=some (.lst xs)):Af K H a xs:=.inl (.inl h)
theorem Ah.of{K:U0}(h:H a=some (.tup xs)):Ah K H a xs:=.inl (.inl h)
theorem Inv.list(I:Inv X pins σ H s)(h:Af X.K H a xs):∃its:List Value,Vals xs its/\PlainL s.heap a its.toArray/\xs.length<=sizeLine:=by
 rcases h with h | ⟨o,its,n,hk,hc,hd,hs,hz,r⟩
 ·obtain⟨z,its,n,r,e⟩:=h.ok I.hok;exact⟨its,r,⟨_,n,e,U,U,U⟩,z⟩
 ·refine⟨its.toList,r,⟨o,n,I.kIn a o hk,hc,hd,by simpa using hs⟩,?_⟩;have e:=r.length;simp only[Vx]at e;omega
theorem Inv.tuple(I:Inv X pins σ H s)(h:Ah X.K H a xs):∃its:List Value,Vals xs its/\IsTup s.heap a its.toArray/\xs.length<=sizeLine:=by
 rcases h with h | ⟨o,its,n,hk,hc,hs,hz,r⟩
 ·obtain⟨z,its,r,p⟩:=h.ok I.hok;exact⟨its,r,p,z⟩
 ·refine⟨its.toList,r,⟨o,I.kIn a o hk,hc,n,by simpa using hs⟩,?_⟩;have e:=r.length;simp only[Vx]at e;omega
theorem Inv.list_inj(I:Inv X pins σ H s)(h:Af X.K H a xs)(h':Af X.K H a ys):xs=ys:=by
 obtain⟨its,r,⟨o,n,e,_,_,d⟩,_⟩:=I.list h;obtain⟨its',c,⟨o',f,b,_,_,d'⟩,_⟩:=I.list h';rw[e]at b;cases b;rw[d]at d';injection d' with d1 _;have:its=its':=by simpa using congrArg Array.toList d1
 subst this;exact r.inj c
theorem Inv.tuple_inj(I:Inv X pins σ H s)(h:Ah X.K H a xs)(h':Ah X.K H a ys):xs=ys:=by
 obtain⟨its,r,⟨o,e,_,n,d⟩,_⟩:=I.tuple h;obtain⟨its',c,⟨o',b,_,f,d'⟩,_⟩:=I.tuple h';rw[e]at b;cases b;rw[d]at d';injection d' with d1 _;have:its=its':=by simpa using congrArg Array.toList d1
 subst this;exact r.inj c
end
noncomputable abbrev Cx.wish (X:Cx)(E:U2):Cx:={X with xe:=E}
noncomputable abbrev Cx.nox (X:Cx):Cx:=X.wish λ_ _=>False
theorem Cx.Ok.wish(ok:X.Ok)(E:U2):(X.wish E).Ok :=
 ⟨ok.mod,ok.kind,ok.glob,ok.blt,ok.above,ok.inj,ok.has,ok.cab,ok.hd,ok.frames,ok.stk,ok.exf,ok.bs,ok.bsz,ok.noex,ok.exfs,ok.funs,ok.frf⟩
theorem Cx.Ok.unwish(ok:(X.wish E).Ok):X.Ok :=
 ⟨ok.mod,ok.kind,ok.glob,ok.blt,ok.above,ok.inj,ok.has,ok.cab,ok.hd,ok.frames,ok.stk,ok.exf,ok.bs,ok.bsz,ok.noex,ok.exfs,ok.funs,ok.frf⟩
section
variable {X:Cx}{pins:U1}{σ:St}{H:Hp}{s:U7}{E:U2}
theorem Inv.wish(I:Inv X pins σ H s)(E:U2):Inv (X.wish E) pins σ H s:=⟨I.ok.wish E,I.os,I.bare,I.base,I.loc,I.cell,I.free,I.freeC,I.pin,I.hok,I.len⟩
theorem Inv.unwish(I:Inv (X.wish E) pins σ H s):Inv X pins σ H s:=⟨I.ok.unwish,I.os,I.bare,I.base,I.loc,I.cell,I.free,I.freeC,I.pin,I.hok,I.len⟩
theorem SP.unwish{D:Ends}{f:Flow}{s':U7}(h:SP (X.wish E) pins D f s'):SP X pins D f s':=by
 cases f with
 | next=>obtain⟨a,H',I,q⟩:=h;exact⟨a,H',I.unwish,q⟩
 | brk=>obtain⟨a,H',I,q⟩:=h;exact⟨a,H',I.unwish,q⟩
 | cont=>obtain⟨a,H',I,q⟩:=h;exact⟨a,H',I.unwish,q⟩
 | ret u=>obtain⟨v,a,H',I,r,q⟩:=h;exact⟨v,a,H',I.unwish,r,q⟩
theorem GF.nox{st:W9}{t:TS}(h:GF X.nox st t):GF X st t:=λpins s σ H D I a =>
 Ep (h pins s σ H D (I.wish _) a) (λ_ _ q=>q.unwish) λ_ _ z=>False.elim z
end
section
variable {X:Cx}{st:Stmt}{rest:W9}{t u:TS}{e:Expr}{te:TE}{pos:Pos}
def Q9:TS:=λD σ H=>D.nx σ H
def Q5 (t u:TS):TS:=λD σ H=>t {D with nx:=u D} σ H
theorem CT:GF X [] Q9:=λ_ _ σ H _ I h=>Rn ⟨σ,H,I,h⟩
theorem Ak(h1:PS X st t)(h2:GF X rest u):GF X (st::rest) (Q5 t u):=by
 intro pins s σ H D I h;refine Yh (BW (h1 pins s σ H {D with nx:=u D} I h) λf c q=>?_);cases f with
 | next =>
  obtain⟨b,H',a,q⟩:=q;exact h2 pins c b H' D a q
 | ret v=>exact q
 | brk=>exact q
 | cont=>exact q
theorem Aj(h1:PS X st t):GF X [st] t:=by
 intro pins s σ H D I h;refine Yh (BW (h1 pins s σ H D I h) λf a q=>?_);cases f with
 | next=>exact Rn q
 | ret v=>exact q
 | brk=>exact q
 | cont=>exact q
theorem Inv.quiet{pins:U1}{σ:St}(I:Inv X pins σ H s):interactive X.env=false:=by simp[interactive,I.ok.kind]
def RG (te:TE):TS:=λD σ H=>te σ H λ_ H1=>D.nx σ H1
theorem Hg(he:PE X e te)(hs:swapsWith e none pos.line X.env=pure false:=by rfl):PS X (.Expr e pos) (RG te):=by
 intro pins s σ H D I h;exact wpAny_Expr_any (BW (he pins s σ H _ I h) λv c ⟨x,H1,b,d,a⟩=>⟨σ,H1,b,a⟩) I.quiet hs
def Q6 (te:TE):TS:=λD σ H=>te σ H D.rt
theorem Ay(he:PE X e te):PS X (.Return (some e) pos) (Q6 te):=by
 intro pins s σ H D I h;exact wpAny_Return_some (BW (he pins s σ H _ I h) λv d ⟨x,H1,b,c,a⟩=>⟨x,σ,H1,b,c,a⟩)
def Xo (c:TT)(t u:TS):TS:=λD σ H=>c σ H λb H1=>if b=true then t D σ H1 else u D σ H1
theorem CQ{c:Expr}{a b:W9}{tc:TT}(hc:PT X c tc)(ha:GF X a t)(hb:GF X b u):PS X (.If c a b pos) (Xo tc t u):=by
 intro pins s σ H D I h;refine wpAny_If (BW (hc pins s σ H _ I h) λd f ⟨H1,g,e⟩=>?_);cases d with
 | true=>exact ha pins f σ H1 D g e
 | false=>exact hb pins f σ H1 D g e
def KH:TS:=λ_ _ _=>False
theorem Gh:PS X st KH:=λ_ _ _ _ _ _ h=>h.elim
theorem Y3r{sts:W9}:GF X sts KH:=λ_ _ _ _ _ _ h=>h.elim
end
abbrev TG:=V->St->Hp->(St->Hp->Prop)->Prop
abbrev PX:=List V->St->Hp->(St->Hp->Prop)->Prop
def PG (X:Cx)(target:Expr)(t:TG):Prop :=
 ∀(pins:U1) (s:U7) (σ:St) (H:Hp) (v:V) (u:W2) (Q:St->Hp->Prop),Inv X pins σ H s->RelV v u->t v σ H Q ->
  wpAny (model X.prog X.w) X.A (assign target X.env u) (λ_ s'=>∃σ' H',Inv X pins σ' H' s'/\Q σ' H') X.xe s
def Xe (X:Cx)(ts:List Expr)(t:PX):Prop :=
 ∀(pins:U1) (s:U7) (σ:St) (H:Hp) (vs:List V) (us:U5) (Q:St->Hp->Prop),Inv X pins σ H s->Vals vs us->t vs σ H Q ->
  wpAny (model X.prog X.w) X.A (assignInOrder ((assignEach ts X.env).map (·.2)) us) (λ_ s'=>∃σ' H',Inv X pins σ' H' s'/\Q σ' H') X.xe s
section
variable {X:Cx}{pos:Pos}
def Bf (i:Nat):TG:=λv σ H Q=>Q (σ.set i (some v)) H
theorem Ck{i:Nat}{x:Str}(hN:X.N.Nodup)(hi:X.N[i]?=some x)(hx:Loc X.env.scope x)(hf:X.fn x=true\/X.env.scope.names.lookup x=some .local:=by first | exact .inl rfl | exact .inr rfl | assumption):PG X (.Name x pos) (Bf i):=by
 intro pins s σ H v u Q I r h;exact Yj (u6 I hN hi hx r (λs' a=>⟨_,H,a,h⟩) hf)
def Ou:PX:=λvs σ H Q=>vs=[]/\Q σ H
def Ge (t:TG)(u:PX):PX:=λvs σ H Q=>∃v r,vs=v::r/\t v σ H λσ' H'=>u r σ' H' Q
theorem PB:Xe X [] Ou:=by
 intro pins s σ H vs us Q I r h;obtain⟨e,h⟩:=h;subst e;cases r;exact assignInOrder_nil ⟨σ,H,I,h⟩
theorem IK{e:Expr}{es:List Expr}{t:TG}{u:PX}(h1:PG X e t)(h2:Xe X es u)
  (hs:(assignEach (e::es) X.env).map (·.2)=assign e X.env::(assignEach es X.env).map (·.2):=by rfl):Xe X (e::es) (Ge t u):=by
 intro pins s σ H vs us Q I r h;obtain⟨v,g,d,h⟩:=h;subst d;cases r with
 | cons r rr =>
  rw[hs];refine assignInOrder_cons (BW (h1 pins s σ H _ _ _ I r h) λ_ c ⟨f,H1,a,b⟩=>?_);exact h2 pins c f H1 _ _ Q a rr b
def Ot (K:U0)(n:Nat)(t:PX):TG:=λv σ H Q=>∃a xs,v=.ref a/\Ah K H a xs/\xs.length=n/\t xs σ H Q
theorem O8{es:List Expr}{k:Nat}{t:PX}{n:Nat}(hc:X.calm=true)(h:Xe X es t)
  (hn:(assignEach es X.env).length=n:=by rfl) (hst:(assignEach es X.env).findIdx? (·.1)=none:=by rfl):PG X (.Tuple es k pos) (Ot X.K n t):=by
 intro pins s σ H v u Q I r c;obtain⟨a,xs,j,l,m,c⟩:=c;subst j;cases r;obtain⟨its,d,f,p⟩:=I.tuple l;refine assign_Tuple_tuple (I.ok.hd hc) f (by simp[hn,<-m,d.length]) hst λh' i=>?_;have g:Inv X pins σ H {s with heap:=h'}:=I.kept (t':=s.toks) λb o e=>i b o (Cw (Bv e)) e;exact h pins _ σ H xs _ Q g (by simpa using d) c
def Li (te:TE)(g:TG):TS:=λD σ H=>te σ H λx H1=>g x σ H1 D.nx
theorem X5s{tg:Expr}{te:TE}{g:TG}(he:PE X e te)(hg:PG X tg g)(hs:swapsWithSole [tg] e pos.line X.env=pure false:=by rfl)(hw:swappedStores [tg] e X.env=pure none:=by rfl)
  (h1:(assignEach [tg] X.env).map (·.2)=[assign tg X.env]:=by rfl):PS X (.Assign [tg] e pos) (Li te g):=by
 intro pins s σ H D I h;refine wpAny_Assign_stores (BW (he pins s σ H _ I h) λv b ⟨x,H1,c,d,a⟩=>?_) hs hw;rw[h1];exact BW (hg pins b σ H1 x v _ c d a) λ_ f q=>q
theorem Bd{i:Nat}{x:Str}{e:Expr}{te:TE}{pos':Pos}(hN:X.N.Nodup)(hi:X.N[i]?=some x)(hx:Loc X.env.scope x)(he:PE X e te)(hs:swapsWith e (some (.Name x pos')) pos.line X.env=pure false:=by rfl)(hf:X.fn x=true\/X.env.scope.names.lookup x=some .local:=by first | exact .inl rfl | exact .inr rfl | assumption):
  PS X (.Assign [.Name x pos'] e pos) (Li te (Bf i)):=by
 intro pins s σ H D I h;refine wpAny_Assign_Name (BW (he pins s σ H _ I h) λv g ⟨y,H1,b,c,a⟩=>?_) hs;exact u6 b hN hi hx c (λf d=>⟨_,H1,d,a⟩) hf
end
section
variable {X:Cx}{pos:Pos}
def KC (c:TT)(tb:TS):TS:=λD σ H=>∃W:Nat->St->Hp->Prop,(∃m,W m σ H)/\∀m σ H,W m σ H ->
 c σ H λb H1=>if b=true then ∃N:St->Hp->Prop,(∀σ' H',N σ' H'->∃m',m'<m/\W m' σ' H')/\tb {D with nx:=N,ct:=N,bk:=D.nx} σ H1 else D.nx σ H1
theorem lH{c:Expr}{body:W9}{tc:TT}{tb:TS}(hp:PassesOwn (model X.prog X.w) X.A X.env X.xe)(hc:PT X c tc)(hb:GF X body tb):PS X (.While c body [] pos) (KC tc tb):=by
 intro pins s σ H D I h;obtain⟨W,⟨u,B⟩,d⟩:=h;refine wpAny_While (codeAny_whileLoop (λn s'=>∃σ' H',Inv X pins σ' H' s'/\W n σ' H') ?_ u ⟨σ,H,I,B⟩);rintro n x ⟨j,H1,t,y⟩;refine Od hp (BW (hc pins x j H1 _ t (d n j H1 y)) λb z ⟨H2,r,g⟩=>?_);cases b with
 | true =>
  obtain⟨N,q,g⟩:=g;rw[if_pos rfl];refine Od hp (BW (hb pins z j H2 _ r g) λf C i=>?_);cases f with
  | next =>
   obtain⟨e,a,l,p⟩:=i;obtain⟨o,m,k⟩:=q e a p;exact⟨o,m,e,a,l,k⟩
  | cont =>
   obtain⟨e,a,l,p⟩:=i;obtain⟨o,m,k⟩:=q e a p;exact⟨o,m,e,a,l,k⟩
  | brk=>exact i
  | ret v=>exact i
 | false =>
  rw[if_neg Ft];exact Rn ⟨j,H2,r,g⟩
end
structure It where
 go:Nat->Hp->Prop
 yld:Nat->Hp->V->Hp->Prop
 stop:Nat->Hp->Prop
def Dj (X:Cx)(pins:U1)(H:Hp)(b:Y0):Prop :=
 H b=none/\b≠X.env.locals/\b∉X.fs/\(b∈X.ex\/X.s₀.heap.objs.size<=b)/\(∀x c,X.env.cells.lookup x=some c->c≠b)/\∀p∈X.pn++pins,p.1≠b
variable{pins:U1}{σ:St}
theorem Inv.fpOk{H':Hp}(I:Inv X pins σ H s)(hb:s.heap.objs.size<=b)(hn:H' b=none):Dj X pins H' b:=by
 refine⟨hn,Lr (GC I.lt hb),I.nofs hb,.inr (Cv I.sz hb),λx c e z=>?_,λp hp z=>?_⟩
 ·obtain⟨v,q⟩:=I.cell x c e;exact absurd (GC q.lt (by rw[z];exact hb)) (M_ _)
 ·exact absurd (GC (Bv (I.pin p hp).1) (by rw[z];exact hb)) (M_ _)
structure Turn (P:U8) (w:W1) (K:U0) (tg:Expr) (J:It) (fp:U3) (it:Y0) (tn:Nat->Heap->Prop):Prop where
 mem:it∈fp
 obj:∀i h,tn i h->∀b∈fp,∃o,h.get? b=some o/\∀v,o.data≠.cell v
 keep:∀i h h',tn i h->(∀b∈fp,∀o,h.get? b=some o->h'.get? b=some o)->tn i h'
 item:∀(X:Cx),X.prog=P->X.w=w->X.K=K->X.calm=true->∀(i:Nat) (pins:U1) (s:U7) (σ:St) (H:Hp) (E:U2),Inv X pins σ H s->(∀b∈fp,Dj X pins H b)->tn i s.heap->J.go i H ->
  wpAny (model P w) X.A (pyNext (.ref it)) (λr s1=>∃u,r=some u /\
   wpAny (model P w) X.A (letOwnedTupleGo tg (.ref it) u) (λ_ s2=>∃x H',Inv X pins σ H' s2/\RelV x u/\J.yld i H x H'/\tn (i+1) s2.heap/\∀b∈fp,H' b=none) E s1) E s
 done:∀(X:Cx),X.prog=P->X.w=w->X.K=K->X.calm=true->∀(i:Nat) (pins:U1) (s:U7) (σ:St) (H:Hp) (E:U2),Inv X pins σ H s->(∀b∈fp,Dj X pins H b)->tn i s.heap->J.stop i H ->
  wpAny (model P w) X.A (pyNext (.ref it)) (λr s1=>r=none/\Inv X pins σ H s1) E s
 self:∀(A:W7) (i:Nat) (s:U7) (Q:U2) (E:U2),tn i s.heap->Q (.ref it) s->wpAny (model P w) A (pyIter (.ref it)) Q E s
abbrev TI:=St->Hp->(It->Hp->Prop)->Prop
def PIE (X:Cx)(pins:U1)(σ:St)(tg:Expr)(R:It->Hp->Prop)(itv:W2)(s2:U7):Prop :=
 ∃(it:Y0) (fp:U3) (tn:Nat->Heap->Prop) (J:It) (H':Hp),itv=.ref it/\Inv X pins σ H' s2/\Turn X.prog X.w X.K tg J fp it tn/\tn 0 s2.heap/\(∀b∈fp,Dj X pins H' b)/\R J H'
def PI (X:Cx)(tg iter:Expr)(wi:TI):Prop :=
 ∀(pins:U1) (s:U7) (σ:St) (H:Hp) (R:It->Hp->Prop),Inv X pins σ H s->wi σ H R ->
  wpAny (model X.prog X.w) X.A (eval iter X.env) (λv s1=>wpAny (model X.prog X.w) X.A (pyIter v) (PIE X pins σ tg R) X.xe s1) X.xe s
variable{tg:Expr}{Q:Unit->Shared->Prop}
theorem Wv{M:Model}{it:Y0}{n:String}{vs:U9}(ho:s.heap.get? it=some o)(hc:o.cls=.type n)(hd:o.data=.fields vs)
  (hn:["enumerate","zip","dict_itemiterator","dict_reverseitemiterator","odict_iterator","itertools.zip_longest","itertools.pairwise"].contains n=false) (hQ:Q () s):wpAny M A (letOwnedTupleGo tg (.ref it) u) Q E s:=by
 unfold letOwnedTupleGo;cases tg<;>first
  | exact CW hQ
  | (cases u<;>first
    | exact CW hQ
    | (refine Bm (wpAny_load ho ?_);rw[hc,hd];show wpAny M A (if (["enumerate","zip","dict_itemiterator","dict_reverseitemiterator","odict_iterator","itertools.zip_longest","itertools.pairwise"].contains n && vs[0]? == some (rawInt _))=true then _ else _) Q E s;rw[if_neg (by intro h;rw[hn,Bool.false_and]at h;cases h)];exact CW hQ))
def J9 (K:U0)(a:Y0):It :=
 ⟨λi H=>∃xs x,Af K H a xs/\xs[i]?=some x,λi H x H'=>H'=H/\∀xs,Af K H a xs->xs[i]?=some x,λi H=>∃xs,Af K H a xs/\xs.length<=i⟩
def N6 (K:U0)(a:Y0):It :=
 ⟨λi H=>∃xs x,Ah K H a xs/\xs[i]?=some x,λi H x H'=>H'=H/\∀xs,Ah K H a xs->xs[i]?=some x,λi H=>∃xs,Ah K H a xs/\xs.length<=i⟩
def GJ (lo:Int)(n:Nat):It:=⟨λi _=>i<n,λi H x H'=>H'=H/\x=.int (lo+i),λi _=>n<=i⟩
variable{K:U0}
theorem Y2t(a it:Y0):Turn P w K tg (J9 K a) [it] it (λi h=>h.IsListIter it a i) where
 mem:=by simp
 obj:=λi h st b hb=>by
  have e:b=it:=by simpa using hb
  subst e;obtain⟨o,e,c,d⟩:=st;exact⟨o,e,λv z=>by rw[d]at z;cases z⟩
 keep:=λi h h' st k=>st.at λo e=>k it (by simp) o e
 item:=by
  intro X A q l F i pins s σ H E I g st m;subst A q l;obtain⟨xs,x,j,B⟩:=m;obtain⟨its,D,p,O⟩:=I.list j;obtain⟨u,L,R⟩:=D.get B;obtain⟨t,y,N,C,r,n⟩:=g it (by simp);refine wpAny_pyNext_list_item st p.isList (x:=u) (by simpa using L) λh' f G=>?_;have J:Inv X pins σ H {s with heap:=h'}:=I.turned (t':=s.toks) (λb o hb e=>(G.2 b hb).trans e) t y C r n;obtain⟨o,e,c,d⟩:=id f;exact⟨u,U,Wv (s:={s with heap:=h'}) e c d (by decide) ⟨x,H,J,R,⟨U,λys Q=>by rw[I.list_inj Q j];exact B⟩,f,λb hb=>(g b hb).1⟩⟩
 done:=by
  intro X A q l F i pins s σ H E I g st m;subst A q l;obtain⟨xs,j,B⟩:=m;obtain⟨its,D,p,O⟩:=I.list j;obtain⟨t,y,N,C,r,n⟩:=g it (by simp);have S:=D.length;exact wpAny_pyNext_list_end (I.ok.hd F) st p.isList (by simp;omega) λh' M=>⟨U,I.turned (t':=s.toks) (λb o hb e=>M b o hb e) t y C r n⟩
 self:=λ_ _ _ _ _ st h=>wpAny_pyIter_listiter st h
theorem Y1r(a it:Y0):Turn P w K tg (N6 K a) [it] it (λi h=>h.IsTupleIter it a i) where
 mem:=by simp
 obj:=λi h st b hb=>by
  have e:b=it:=by simpa using hb
  subst e;obtain⟨o,e,c,d⟩:=st;exact⟨o,e,λv z=>by rw[d]at z;cases z⟩
 keep:=λi h h' st k=>st.at λo e=>k it (by simp) o e
 item:=by
  intro X A q l F i pins s σ H E I g st m;subst A q l;obtain⟨xs,x,j,B⟩:=m;obtain⟨its,D,p,O⟩:=I.tuple j;obtain⟨u,L,R⟩:=D.get B;obtain⟨t,y,N,C,r,n⟩:=g it (by simp);refine wpAny_pyNext_tuple_item st (show s.heap.IsTuple a its.toArray from p) (x:=u) (by simpa using L) λh' f G=>?_;have J:Inv X pins σ H {s with heap:=h'}:=I.turned (t':=s.toks) (λb o hb e=>(G.2 b hb).trans e) t y C r n;obtain⟨o,e,c,d⟩:=id f;exact⟨u,U,Wv (s:={s with heap:=h'}) e c d (by decide) ⟨x,H,J,R,⟨U,λys Q=>by rw[I.tuple_inj Q j];exact B⟩,f,λb hb=>(g b hb).1⟩⟩
 done:=by
  intro X A q l F i pins s σ H E I g st m;subst A q l;obtain⟨xs,j,B⟩:=m;obtain⟨its,D,p,O⟩:=I.tuple j;obtain⟨t,y,N,C,r,n⟩:=g it (by simp);have S:=D.length;exact wpAny_pyNext_tuple_end (I.ok.hd F) st (show s.heap.IsTuple a its.toArray from p) (by simp;omega) λh' M=>⟨U,I.turned (t':=s.toks) (λb o hb e=>M b o hb e) t y C r n⟩
 self:=λ_ _ _ _ _ st h=>wpAny_pyIter_tupleiter st h
theorem Y1s(it:Y0)(lo:Int)(n:Nat):Turn P w K tg (GJ lo n) [it] it (λi h=>IsRangeIter h it (lo+(i:Nat)*1) ((n:Int)-(i:Nat)) 1) where
 mem:=by simp
 obj:=λi h st b hb=>by
  have e:b=it:=by simpa using hb
  subst e
  exact⟨_,st,λv z=>by
   have C:Data.fields _=Data.cell v:=z
   cases C⟩
 keep:=λi h h' st k=>k it (by simp) _ st
 item:=by
  intro X q j d r i pins s σ H E I c st f;subst q j d;obtain⟨m,p,B,u,l,g⟩:=c it (by simp);have W:=Walks.range (prog:=X.prog) (w:=X.w) (I.ok.hd r) it lo 1 n;refine W.item i s _ _ f st λv h' tk x a kk=>?_;obtain⟨t,rfl⟩:=x;have y:Inv X pins σ H {s with heap:=h',toks:=tk}:=I.turned (λb o hb e=>kk b o (by simpa using hb) e) m p u l g;refine⟨_,U,Wv (s:={s with heap:=h',toks:=tk}) (n:="range_iterator") a rfl rfl (by decide) ⟨.int (lo+i),H,y,⟨t,?_⟩,⟨U,U⟩,a,λb hb=>(c b hb).1⟩⟩;rw[Int.mul_one]
 done:=by
  intro X q j d r i pins s σ H E I c st f;subst q j d;obtain⟨m,p,B,u,l,g⟩:=c it (by simp);exact wpAny_pyNext_range_end (I.ok.hd r) st (by have:n<=i:=f;omega) λh' A=>⟨U,I.turned (t':=s.toks) (λb o hb e=>A b o hb e) m p u l g⟩
 self:=λ_ _ _ _ _ st h=>wpAny_pyIter_rangeiter st h
section
variable {X:Cx}{tg:Expr}
def Tr (K:U0)(tl:TE):TI:=λσ H R=>tl σ H λx H1=>∃a,x=.ref a/\(∃xs,Af K H1 a xs)/\R (J9 K a) H1
def jg (K:U0)(tl:TE):TI:=λσ H R=>tl σ H λx H1=>∃a,x=.ref a/\(∃xs,Ah K H1 a xs)/\R (N6 K a) H1
theorem JC{l:Expr}{tl:TE}(hl:PE X l tl):PI X tg l (Tr X.K tl):=by
 intro pins s σ H R I h;refine BW (hl pins s σ H _ I h) λv d ⟨x,H1,c,g,f⟩=>?_;obtain⟨a,e,⟨xs,i⟩,q⟩:=f;subst e;cases g;obtain⟨its,k,p,j⟩:=c.list i;refine Og p.isList ?_;refine⟨d.heap.objs.size,[d.heap.objs.size],_,_,H1,U,c.kept (t':=d.toks) λb o e=>Df _ e,Y2t a _,⟨_,Ej _ rfl,U,U⟩,λb hb=>?_,q⟩;have e:b=d.heap.objs.size:=by simpa using hb
 subst e;exact c.fpOk (Bj _) (c.hok.fresh (Bj _))
theorem Mj{l:Expr}{tl:TE}(hl:PE X l tl):PI X tg l (jg X.K tl):=by
 intro pins s σ H R I h;refine BW (hl pins s σ H _ I h) λv c ⟨x,H1,d,g,f⟩=>?_;obtain⟨a,e,⟨xs,i⟩,q⟩:=f;subst e;cases g;obtain⟨its,k,p,j⟩:=d.tuple i;refine Yn (show c.heap.IsTuple a its.toArray from p) ?_;refine⟨c.heap.objs.size,[c.heap.objs.size],_,_,H1,U,d.kept (t':=c.toks) λb o e=>Df _ e,Y1r a _,⟨_,Ej _ rfl,U,U⟩,λb hb=>?_,q⟩;have e:b=c.heap.objs.size:=by simpa using hb
 subst e;exact d.fpOk (Bj _) (d.hok.fresh (Bj _))
theorem Y7h{R:It->Hp->Prop}{lo hi:Int}{t u v:Tok}{tk:Nat}(I:Inv X pins σ H s)(h1:-(2^62)<=lo)(h2:lo<2^62)(h3:-(2^62)<=hi)(h4:hi<2^62)
  (q:R (GJ lo (hi-lo).toNat) H):wpAny (model X.prog X.w) X.A (pyIter (.ref s.heap.objs.size)) (PIE X pins σ tg R) E {s with heap:=s.heap.push { cls:=.type "range",data:=.fields #[.int lo t,.int hi u,.int 1 v]},toks:=tk}:=by
 refine wpAny_pyIter_range (IsRange.new ..) (small_one h1 h2 h3 h4) ?_;have a:Inv X pins σ H {s with heap:=s.heap.push { cls:=.type "range",data:=.fields #[.int lo t,.int hi u,.int 1 v]},toks:=tk}:=I.kept λb o e=>Df _ e
 refine⟨(s.heap.push { cls:=.type "range",data:=.fields #[.int lo t,.int hi u,.int 1 v]}).objs.size,[(s.heap.push { cls:=.type "range",data:=.fields #[.int lo t,.int hi u,.int 1 v]}).objs.size],_,_,H,U,
  a.kept (t':=tk) λb o e=>Df _ e,Y1s _ lo (hi-lo).toNat,?_,λb hb=>?_,q⟩
 ·have c:lo+((0:Nat):Int)*1=lo:=by simp
  have d:(((hi-lo).toNat:Nat):Int)-((0:Nat):Int)=Builtin.Range.rangeSize lo hi 1:=by rw[rangeSize_one];split<;>omega
  show IsRangeIter _ _ (lo+((0:Nat):Int)*1) ((((hi-lo).toNat:Nat):Int)-((0:Nat):Int)) 1;rw[c,d];exact Ej _ rfl
 ·have e:b=(s.heap.push { cls:=.type "range",data:=.fields #[.int lo t,.int hi u,.int 1 v]}).objs.size:=by simpa using hb
  subst e;exact a.fpOk (Bj _) (a.hok.fresh (Bj _))
def Tq (ta:TA):TI:=λσ H R=>ta σ H λvs H1=>∃j:Int,vs=[.int j]/\-(2^62)<=j/\j<2^62/\R (GJ 0 j.toNat) H1
theorem Mq{a:Expr}{ta:TA}{p pos:Pos}(hg:Gl X "range")(hm:X.mg "range"=none)(ha:PA X [a] ta)(hs:starEach [a] X.env=[(false,eval a X.env)]:=by rfl):PI X tg (.Call (.Name "range" p) [a] [] pos) (Tq ta):=by
 intro pins s σ H R I h;refine Call_ (Mi I hg hm boot_range (PyProof.Rows.callWith_type1 (BW (ha pos pins s σ H _ I h) λus g ⟨vs,H1,c,f,b⟩=>?_) hs rfl));obtain⟨j,e,b,d,q⟩:=b;subst e;cases f with
 | cons r rr =>
  cases rr;obtain⟨t,rfl⟩:=r;exact call_range_1 (Y7h c (by omega) (by omega) b d (by simpa using q))
def Xp (wi:TI)(g:TG)(tb:TS):TS:=λD σ H=>wi σ H λJ H1=>∃W:Nat->Nat->St->Hp->Prop,(∃m,W 0 m σ H1)/\∀i m σ H,W i m σ H ->
 (J.stop i H/\D.nx σ H)\/(J.go i H/\∃N:St->Hp->Prop,(∀σ' H',N σ' H'->∃m',m'<m/\W (i+1) m' σ' H')/\∀x H',J.yld i H x H'->g x σ H' λσ2 H2=>tb {D with nx:=N,ct:=N,bk:=D.nx} σ2 H2)
noncomputable def Fd (fp:U3)(h:Heap):List (Addr×Obj):=fp.filterMap λb=>(h.get? b).map λo=>(b,o)
variable{fp:U3}
theorem Qh(hb:b∈fp)(e:h.get? b=some o):(b,o)∈Fd fp h:=List.mem_filterMap.mpr ⟨b,hb,by rw[e];rfl⟩
theorem Y4z{p:Addr×Obj}(hp:p∈Fd fp h):p.1∈fp/\h.get? p.1=some p.2:=by
 obtain⟨b,hb,e⟩:=List.mem_filterMap.mp hp;cases q:h.get? b with
 | none=>rw[q]at e;cases e
 | some o =>
  rw[q]at e;have a:(b,o)=p:=Option.some.inj e;subst a;exact⟨hb,q⟩
theorem Inv.pinned(I:Inv X pins σ H s)(hf:∀b∈fp,Dj X pins H b)(ho:∀b∈fp,∃o,s.heap.get? b=some o/\∀v,o.data≠.cell v):Inv X (pins++Fd fp s.heap) σ H s :=
 I.pins_of λp hp=>(K9.mp hp).elim (λz=>I.pin p (Hy _ z)) λz=>by
  obtain⟨hb,e⟩:=Y4z z;obtain⟨g,c,f,_⟩:=hf p.1 hb;obtain⟨o,a,d⟩:=ho p.1 hb;rw[e]at a;cases a;exact⟨e,g,c,f,d⟩
theorem Inv.unpinned{pl:U1}(I:Inv X (pins++pl) σ H s):Inv X pins σ H s:=I.pins_of λp hp=>I.pin p (Hy _ (List.mem_append_left _ hp))
theorem Jv{iter:Expr}{body:W9}{wi:TI}{g:TG}{tb:TS}{pos:Pos}(hp:PassesOwn (model X.prog X.w) X.A X.env X.xe)(hc:X.calm=true)(hi:PI X tg iter wi)(hg:PG X tg g)(hb:GF X body tb)
  (hs:∀x,foldedSetIterable iter X.env x=pure x:=by intro _;rfl):PS X (.For tg iter body [] pos) (Xp wi g tb):=by
 intro pins s σ H D I h;refine wpAny_For (BW (hi pins s σ H _ I h) λv s1 h1=>BW h1 λa0 s2 h2=>?_) hs;obtain⟨it,fp,U,J,H2,e,I2,T,F,O,W,⟨m0,w0⟩,z⟩:=h2;subst e;have c:∀{H':Hp},(∀b∈fp,H' b=none)->∀b∈fp,Dj X pins H' b:=λhn b hb=>⟨hn b hb,(O b hb).2⟩;refine codeAny_forLoop_any (λn s'=>∃i σ' H',Inv X pins σ' H' s'/\U i s'.heap/\(∀b∈fp,H' b=none)/\W i n σ' H') ?_ m0 ⟨0,σ,H2,I2,F,λb hb=>(O b hb).1,w0⟩;rintro n P ⟨i,B,E,R,t,C,w3⟩;rcases z i n B E w3 with ⟨stop,qn⟩ | ⟨go,N,hN,step⟩
 ·refine Od hp (BW (T.done X rfl rfl rfl hc i pins P B E X.xe R (c C) t stop) λr s4 ⟨L,I4⟩=>?_);subst L;exact Rn ⟨B,E,I4,qn⟩
 ·refine Od hp (BW (T.item X rfl rfl rfl hc i pins P B E X.xe R (c C) t go) λr s4 ⟨u,L,h4⟩=>?_);subst L;refine Od hp (BW h4 λ_ S ⟨x,Q,I5,r5,y5,q,M⟩=>?_);have G:=I5.pinned (c M) (T.obj _ _ q);refine Od hp (BW (hg _ S B Q x u _ G r5 (step x Q y5)) λ_ s6 ⟨σ6,V,I6,Y⟩=>?_);refine Od hp (BW (hb _ s6 σ6 V _ I6 Y) λf K p=>?_);have l:∀{j:St}{k:Hp},Inv X (pins++Fd fp S.heap) j k K->N j k->∃m,m<n/\∃i σ' H',Inv X pins σ' H' K/\U i K.heap/\(∀b∈fp,H' b=none)/\W i m σ' H':=λ{j k} a y=>by
   obtain⟨m',Z,w7⟩:=hN j k y;refine⟨m',Z,i+1,j,k,a.unpinned,T.keep _ _ _ q λb hb o e=>(a.pin (b,o) (Hy _ (Hy _ (Qh hb e)))).1,λb hb=>?_,w7⟩;obtain⟨o,e,d⟩:=T.obj _ _ q b hb;exact(a.pin (b,o) (Hy _ (Hy _ (Qh hb e)))).2.1
  cases f with
  | next=>obtain⟨j,k,a,y⟩:=p;exact l a y
  | cont=>obtain⟨j,k,a,y⟩:=p;exact l a y
  | brk=>obtain⟨j,k,a,p⟩:=p;exact⟨j,k,a.unpinned,p⟩
  | ret v=>obtain⟨x7,j,k,a,r7,p⟩:=p;exact⟨x7,j,k,a.unpinned,r7,p⟩
end
variable{g:TG}{tb:TS}{D:Ends}
theorem Ur(Pv:Nat->St->Hp->Prop)(h0:Pv 0 σ H)(hl:∀i σ H,i<=xs.length->Pv i σ H->Af K H a xs)
  (hs:∀i x σ H,xs[i]?=some x->Pv i σ H->g x σ H λc H2=>tb {D with nx:=Pv (i+1),ct:=Pv (i+1),bk:=D.nx} c H2) (hd:∀σ H,Pv xs.length σ H->D.nx σ H):
  ∃W:Nat->Nat->St->Hp->Prop,(∃m,W 0 m σ H)/\∀i m σ H,W i m σ H ->
   ((J9 K a).stop i H/\D.nx σ H)\/((J9 K a).go i H/\∃N:St->Hp->Prop,(∀b H',N b H'->∃m',m'<m/\W (i+1) m' b H')/\∀x H',(J9 K a).yld i H x H'->g x σ H' λc H2=>tb {D with nx:=N,ct:=N,bk:=D.nx} c H2):=by
 refine⟨λi m σ H=>m=xs.length-i/\i<=xs.length/\Pv i σ H,⟨xs.length,by simp,Dz _,h0⟩,?_⟩;rintro i m σ H ⟨rfl,hi,p⟩;have q:=hl i σ H hi p;by_cases hlt:i<xs.length
 ·refine .inr ⟨⟨xs,xs[i],q,by simp[hlt]⟩,Pv (i+1),λb H' d=>⟨xs.length-(i+1),by omega,U,hlt,d⟩,λx H' y=>?_⟩;obtain⟨e,y⟩:=y;subst e;exact hs i x σ _ (y xs q) p
 ·have e:i=xs.length:=by omega
  subst e;exact .inl ⟨⟨xs,q,Bj _⟩,hd σ H p⟩
theorem j4(Pv:Nat->St->Hp->Prop)(h0:Pv 0 σ H)(hl:∀i σ H,i<=xs.length->Pv i σ H->Ah K H a xs)
  (hs:∀i x σ H,xs[i]?=some x->Pv i σ H->g x σ H λc H2=>tb {D with nx:=Pv (i+1),ct:=Pv (i+1),bk:=D.nx} c H2) (hd:∀σ H,Pv xs.length σ H->D.nx σ H):
  ∃W:Nat->Nat->St->Hp->Prop,(∃m,W 0 m σ H)/\∀i m σ H,W i m σ H ->
   ((N6 K a).stop i H/\D.nx σ H)\/((N6 K a).go i H/\∃N:St->Hp->Prop,(∀b H',N b H'->∃m',m'<m/\W (i+1) m' b H')/\∀x H',(N6 K a).yld i H x H'->g x σ H' λc H2=>tb {D with nx:=N,ct:=N,bk:=D.nx} c H2):=by
 refine⟨λi m σ H=>m=xs.length-i/\i<=xs.length/\Pv i σ H,⟨xs.length,by simp,Dz _,h0⟩,?_⟩;rintro i m σ H ⟨rfl,hi,p⟩;have q:=hl i σ H hi p;by_cases hlt:i<xs.length
 ·refine .inr ⟨⟨xs,xs[i],q,by simp[hlt]⟩,Pv (i+1),λb H' d=>⟨xs.length-(i+1),by omega,U,hlt,d⟩,λx H' y=>?_⟩;obtain⟨e,y⟩:=y;subst e;exact hs i x σ _ (y xs q) p
 ·have e:i=xs.length:=by omega
  subst e;exact .inl ⟨⟨xs,q,Bj _⟩,hd σ H p⟩
theorem lQ{lo:Int}{n:Nat}(Pv:Nat->St->Hp->Prop)(h0:Pv 0 σ H)
  (hs:∀i σ H,i<n->Pv i σ H->g (.int (lo+i)) σ H λb H2=>tb {D with nx:=Pv (i+1),ct:=Pv (i+1),bk:=D.nx} b H2) (hd:∀σ H,Pv n σ H->D.nx σ H):
  ∃W:Nat->Nat->St->Hp->Prop,(∃m,W 0 m σ H)/\∀i m σ H,W i m σ H ->
   ((GJ lo n).stop i H/\D.nx σ H)\/((GJ lo n).go i H/\∃N:St->Hp->Prop,(∀a H',N a H'->∃m',m'<m/\W (i+1) m' a H')/\∀x H',(GJ lo n).yld i H x H'->g x σ H' λb H2=>tb {D with nx:=N,ct:=N,bk:=D.nx} b H2):=by
 refine⟨λi m σ H=>m=n-i/\i<=n/\Pv i σ H,⟨n,by simp,Dz _,h0⟩,?_⟩;rintro i m σ H ⟨rfl,hi,p⟩;by_cases hlt:i<n
 ·refine .inr ⟨hlt,Pv (i+1),λa H' c=>⟨n-(i+1),by omega,U,hlt,c⟩,λx H' y=>?_⟩;obtain⟨e,y⟩:=y;subst e y;exact hs i σ _ hlt p
 ·have e:i=n:=by omega
  subst e;exact .inl ⟨Bj _,hd σ H p⟩
theorem Y6v{c:TT}(Pv:St->Hp->Prop)(μ:St->Hp->Nat)(h0:Pv σ H)
  (hs:∀σ H,Pv σ H->c σ H λb H1=>if b=true then tb {D with nx:=λa H'=>Pv a H'/\μ a H'<μ σ H,ct:=λa H'=>Pv a H'/\μ a H'<μ σ H,bk:=D.nx} σ H1 else D.nx σ H1)
  (mono:∀σ H Q Q',(∀b H1,Q b H1->Q' b H1)->c σ H Q->c σ H Q'):KC c tb D σ H:=by
 refine⟨λm σ H=>m=μ σ H/\Pv σ H,⟨_,U,h0⟩,?_⟩;rintro m σ H ⟨rfl,p⟩;refine mono σ H _ _ (λb H1 q=>?_) (hs σ H p);cases b with
 | true=>exact⟨_,λa H' ⟨d,l⟩=>⟨_,l,rfl,d⟩,q⟩
 | false=>exact q
abbrev R2:=V->V->Hp->VK->Prop
def C_ (X:Cx)(f:Value->Value->Sem Value)(r:R2):Prop :=
 ∀(pins:U1) (s:U7) (σ:St) (H:Hp) (x y:V) (v u:W2) (Q:VK),Inv X pins σ H s->RelV x v->RelV y u->r x y H Q ->
  wpAny (model X.prog X.w) X.A (f v u) (EP X pins σ Q) X.xe s
def mq (X:Cx)(f:Value->Sem Value)(r:V->Hp->VK->Prop):Prop :=
 ∀(pins:U1) (s:U7) (σ:St) (H:Hp) (x:V) (v:W2) (Q:VK),Inv X pins σ H s->RelV x v->r x H Q ->
  wpAny (model X.prog X.w) X.A (f v) (EP X pins σ Q) X.xe s
def CJ (X:Cx)(f:W2)(r:List V->Hp->VK->Prop):Prop :=
 ∀(pins:U1) (s:U7) (σ:St) (H:Hp) (xs:List V) (us:U5) (Q:VK),Inv X pins σ H s->Vals xs us->r xs H Q ->
  wpAny (model X.prog X.w) X.A (call f us) (EP X pins σ Q) X.xe s
def m8 (X:Cx)(r:V->Hp->(Bool->Hp->Prop)->Prop):Prop :=
 ∀(pins:U1) (s:U7) (σ:St) (H:Hp) (x:V) (v:W2) (Q:Bool->Hp->Prop),Inv X pins σ H s->RelV x v->r x H Q ->
  wpAny (model X.prog X.w) X.A (truthy v) (TP X pins σ Q) X.xe s
def M5 (r:R2)(ta tb:TE):TE:=λσ H Q=>ta σ H λx H1=>tb σ H1 λy H2=>r x y H2 Q
def xr (r:V->Hp->VK->Prop)(ta:TE):TE:=λσ H Q=>ta σ H λx H1=>r x H1 Q
def rI (C:Int->Int->Prop)(g:Int->Int->V):R2:=λx y H Q=>∃i j,x=.int i/\y=.int j/\C i j/\Q (g i j) H
def Kg (g:Int->Int->V):R2:=λx y H Q=>∃i j,x=.int i/\y=.int j/\Q (g i j) H
def rU (g:Int->V):V->Hp->VK->Prop:=λx H Q=>∃i,x=.int i/\Q (g i) H
section
variable {X:Cx}{a b c:Expr}{ta tb tc:TE}{pos:Pos}
variable{f:Value->Value->Sem Value}
theorem O1(ha:PE X a ta)(hb:PE X b tb){R:V->V->Hp->Prop}(I:Inv X pins σ H s)
  (h:ta σ H λx H1=>tb σ H1 λy H2=>R x y H2) {Q:U2}
  (hf:∀v u c x y H2,Inv X pins σ H2 c->RelV x v->RelV y u->R x y H2->wpAny (model X.prog X.w) X.A (f v u) Q X.xe c):
  wpAny (model X.prog X.w) X.A (eval a X.env) (λv d=>wpAny (model X.prog X.w) X.A (eval b X.env) (λu k=>wpAny (model X.prog X.w) X.A (f v u) Q X.xe k) X.xe d) X.xe s:=by
 refine BW (ha pins s σ H _ I h) λv g ⟨x,H1,i,j,e⟩=>?_;refine BW (hb pins g σ H1 _ i e) λu c ⟨y,H2,l,n,m⟩=>?_;exact hf v u c x y H2 l j n m
theorem Aq{op:Operator}{r:R2}(ho:C_ X (binaryOp op) r)(ha:PE X a ta)(hb:PE X b tb):PE X (.BinOp a op b pos) (M5 r ta tb):=by
 intro pins s σ H Q I h;exact wpAny_BinOp (O1 ha hb I h λv u e x y H2 f c d q=>ho pins e σ H2 x y v u Q f c d q)
theorem Np{op:UnaryOp}{r:V->Hp->VK->Prop}(ho:mq X (unaryOp op) r)(ha:PE X a ta):PE X (.UnaryOp op a pos) (xr r ta):=by
 intro pins s σ H Q I h;exact UnaryOp_ (BW (ha pins s σ H _ I h) λv c ⟨x,H1,d,e,b⟩=>ho pins c σ H1 x v Q d e b)
variable{g:Int->Int->Int}
theorem NZ{C:Int->Int->Prop}
  (rule:∀(i j:Int) (t u:Tok) (s:U7) (Q:U2) (E:U2),C i j->Q (.int (g i j) s.toks) {s with toks:=s.toks+1}->wpAny (model X.prog X.w) X.A (f (.int i t) (.int j u)) Q E s):
  C_ X f (rI C λi j=>.int (g i j)):=by
 intro pins s σ H x y v u Q I b a h;obtain⟨i,j,rfl,rfl,c,q⟩:=h;obtain⟨t,rfl⟩:=b;obtain⟨t',rfl⟩:=a;exact rule i j t t' s _ _ c ⟨.int (g i j),H,I.tok _,⟨_,U⟩,q⟩
theorem Kr
  (rule:∀(i j:Int) (t u:Tok) (s:U7) (Q:U2) (E:U2),Q (.int (g i j) s.toks) {s with toks:=s.toks+1}->wpAny (model X.prog X.w) X.A (f (.int i t) (.int j u)) Q E s):
  C_ X f (Kg λi j=>.int (g i j)):=by
 intro pins s σ H x y v u Q I b a h;obtain⟨i,j,rfl,rfl,q⟩:=h;obtain⟨t,rfl⟩:=b;obtain⟨t',rfl⟩:=a;exact rule i j t t' s _ _ ⟨.int (g i j),H,I.tok _,⟨_,U⟩,q⟩
theorem Ly{g:Int->Int->Bool}
  (rule:∀(i j:Int) (t u:Tok) (s:U7) (Q:U2) (E:U2),Q (.bool (g i j)) s->wpAny (model X.prog X.w) X.A (f (.int i t) (.int j u)) Q E s):
  C_ X f (Kg λi j=>.bl (g i j)):=by
 intro pins s σ H x y v u Q I b a h;obtain⟨i,j,rfl,rfl,q⟩:=h;obtain⟨t,rfl⟩:=b;obtain⟨t',rfl⟩:=a;exact rule i j t t' s _ _ ⟨.bl (g i j),H,I,U,q⟩
def n6 (i j:Int):Prop:=0<j/\j<1073741824
def nu (i j:Int):Prop:=0<=j/\j<=1000000/\i.natAbs<2^64
def Pa (i j:Int):Prop:=(-(2^64)<i/\i<2^64)\/(-(2^64)<j/\j<2^64)
theorem Pa.ok{i j:Int}(h:Pa i j):IntMulOk i j:=by
 rcases h with ⟨h1,h2⟩ | ⟨h1,h2⟩
 ·exact .of_left (intBits_le_64 h1 h2)
 ·exact .of_right (intBits_le_64 h1 h2)
theorem Y1q(k:Nat):(0:Int)<=2^k:=by
 rw[two_pow_cast];exact Int.natCast_nonneg _
theorem Gu:C_ X (binaryOp .Add) (Kg λi j=>.int (i+j)):=Kr λ_ _ _ _ _ _ _ q=>add_int q
theorem G5:C_ X (binaryOp .Sub) (Kg λi j=>.int (i-j)):=Kr λ_ _ _ _ _ _ _ q=>sub_int q
theorem XJ:C_ X (binaryOp .Mult) (rI Pa λi j=>.int (i*j)):=NZ λ_ _ _ _ _ _ _ a q=>mul_int q a.ok
theorem j8:C_ X (binaryOp .FloorDiv) (rI n6 λi j=>.int (i / j)):=NZ λi j _ _ _ _ _ a q=>by
 have h1:(0:Int)<j:=a.1;have h2:j<1073741824:=a.2;exact floordiv_int (by omega) (by rw[Y_ i (by omega)];exact q) (.inl (PyProof.noPylong_small (by omega)))
theorem Jj:C_ X (binaryOp .Mod) (rI (λ_ j=>0<j) λi j=>.int (i%j)):=NZ λi j _ _ _ _ _ a q=>by
 have h1:(0:Int)<j:=a;exact mod_int' (by omega) (by rw[Int.fmod_eq_emod_of_nonneg i (by omega)];exact q)
theorem wk:C_ X (binaryOp .Pow) (rI nu λi j=>.int (i^j.toNat)):=NZ λ_ _ _ _ _ _ _ a q=>pow_int_small a.1 a.2.1 a.2.2 q
theorem Ud:C_ X (binaryOp .RShift) (rI (λ_ j=>0<=j) λi j=>.int (i / 2^j.toNat)):=NZ λi j _ _ _ _ _ a q =>
 rshift_int a (by rw[Y_ i (Y1q _)];exact q)
theorem LR:C_ X (binaryOp .BitAnd) (Kg λi j=>.int (Builtin.bitAnd i j)):=Kr λ_ _ _ _ _ _ _ q=>and_int q
theorem Nm:C_ X (binaryOp .BitOr) (Kg λi j=>.int (Builtin.bitOr i j)):=Kr λ_ _ _ _ _ _ _ q=>or_int q
theorem Ue:C_ X (binaryOp .BitXor) (Kg λi j=>.int (Builtin.bitXor i j)):=Kr λ_ _ _ _ _ _ _ q=>xor_int q
theorem xg{f:Value->Sem Value}{g:Int->Int}
  (rule:∀(i:Int) (t:Tok) (s:U7) (Q:U2) (E:U2),Q (.int (g i) s.toks) {s with toks:=s.toks+1}->wpAny (model X.prog X.w) X.A (f (.int i t)) Q E s):
  mq X f (rU λi=>.int (g i)):=by
 intro pins s σ H x v Q I a h;obtain⟨i,rfl,q⟩:=h;obtain⟨t,rfl⟩:=a;exact rule i t s _ _ ⟨.int (g i),H,I.tok _,⟨_,U⟩,q⟩
theorem Nu:mq X (unaryOp .USub) (rU λi=>.int (-i)):=xg λ_ _ _ _ _ q=>neg_int q
end
noncomputable def RL:V->V->Bool
 | .non,.non=>true | .non,.int _=>true | .int _,.non=>true | .non,.bl _=>true | .bl _,.non=>true | .non,.str _=>true | .str _,.non=>true
 | .int _,.int _=>true | .bl _,.bl _=>true | .str _,.str _=>true | .byt _,.byt _=>true
 | .int _,.str _=>true | .str _,.int _=>true | .bl _,.str _=>true | .str _,.bl _=>true
 | _,_=>false
def yG:R2:=λx y H Q=>RL x y=true/\Q (.bl (decide (x=y))) H
def yF:R2:=λx y H Q=>RL x y=true/\Q (.bl (!decide (x=y))) H
theorem rR{i j:Int}:decide (V.int i=V.int j)=(i == j):=by
 rw[Pn];simp
theorem wF{i j:Bool}:decide (V.bl i=V.bl j)=(i == j):=by
 rw[Pn];simp
theorem rT{i j:Str}:decide (V.str i=V.str j)=(i == j):=by
 rw[Pn];simp
theorem rQ{i j:Array UInt8}:decide (V.byt i=V.byt j)=(i.toList == j.toList):=by
 rw[Pn];cases i;cases j;simp
section
variable {X:Cx}{a b c:Expr}{ta tb tc:TE}{pos:Pos}
theorem Dq{Q:VK}{k k':Bool}(I:Inv X pins σ H s)(q:Q (.bl k) H)(e:k=k'):EP X pins σ Q (.bool k') s:=by
 subst e;exact⟨.bl k,H,I,U,q⟩
theorem Di:C_ X (compareOp .Eq) yG:=by
 intro pins s σ H x y v u Q I c a h;obtain⟨b,q⟩:=h;cases x with
 | non =>
  cases c;cases y with
  | non=>cases a;exact PySem.EqNone.eq_none_none (Dq I q (by simp))
  | bl j=>cases a;exact PySem.EqNone.eq_none_bool (Dq I q (by simp))
  | int j=>obtain⟨t',rfl⟩:=a;exact PySem.EqNone.eq_none_int (Dq I q (by simp))
  | str j=>obtain⟨t',rfl⟩:=a;exact PySem.EqNone.eq_none_str (Dq I q (by simp))
  | _=>exact absurd (show false=true from b) Ft
 | bl i =>
  cases c;cases y with
  | non=>cases a;exact PySem.EqNone.eq_bool_none (Dq I q (by simp))
  | bl j=>cases a;exact eq_bool (Dq I q wF)
  | str j=>obtain⟨t',rfl⟩:=a;exact PySem.EqMixed.eq_bool_str (Dq I q (by simp))
  | _=>exact absurd (show false=true from b) Ft
 | int i =>
  obtain⟨t,rfl⟩:=c;cases y with
  | non=>cases a;exact PySem.EqNone.eq_int_none (Dq I q (by simp))
  | int j=>obtain⟨t',rfl⟩:=a;exact eq_int (Dq I q rR)
  | str j=>obtain⟨t',rfl⟩:=a;exact PySem.EqMixed.eq_int_str (Dq I q (by simp))
  | _=>exact absurd (show false=true from b) Ft
 | str i =>
  obtain⟨t,rfl⟩:=c;cases y with
  | non=>cases a;exact PySem.EqNone.eq_str_none (Dq I q (by simp))
  | bl j=>cases a;exact PySem.EqMixed.eq_str_bool (Dq I q (by simp))
  | int j=>obtain⟨t',rfl⟩:=a;exact PySem.EqMixed.eq_str_int (Dq I q (by simp))
  | str j=>obtain⟨t',rfl⟩:=a;exact eq_str (Dq I q rT)
  | _=>exact absurd (show false=true from b) Ft
 | byt i =>
  obtain⟨t,rfl⟩:=c;cases y with
  | byt j=>obtain⟨t',rfl⟩:=a;exact PySem.W.eq_bytes (Dq I q rQ)
  | _=>exact absurd (show false=true from b) Ft
 | _=>cases y<;>exact absurd (show false=true from b) Ft
theorem Jh:C_ X (compareOp .NotEq) yF:=by
 intro pins s σ H x y v u Q I c a h;obtain⟨b,q⟩:=h;cases x with
 | non =>
  cases c;cases y with
  | non=>cases a;exact PySem.EqNone.ne_none_none (Dq I q (by simp))
  | bl j=>cases a;exact PySem.EqNone.ne_none_bool (Dq I q (by simp))
  | int j=>obtain⟨t',rfl⟩:=a;exact PySem.EqNone.ne_none_int (Dq I q (by simp))
  | str j=>obtain⟨t',rfl⟩:=a;exact PySem.EqNone.ne_none_str (Dq I q (by simp))
  | _=>exact absurd (show false=true from b) Ft
 | bl i =>
  cases c;cases y with
  | non=>cases a;exact PySem.EqNone.ne_bool_none (Dq I q (by simp))
  | bl j=>cases a;exact ne_bool (Dq I q (congrArg not wF))
  | str j=>obtain⟨t',rfl⟩:=a;exact PySem.EqMixed.ne_bool_str (Dq I q (by simp))
  | _=>exact absurd (show false=true from b) Ft
 | int i =>
  obtain⟨t,rfl⟩:=c;cases y with
  | non=>cases a;exact PySem.EqNone.ne_int_none (Dq I q (by simp))
  | int j=>obtain⟨t',rfl⟩:=a;exact ne_int (Dq I q (congrArg not rR))
  | str j=>obtain⟨t',rfl⟩:=a;exact PySem.EqMixed.ne_int_str (Dq I q (by simp))
  | _=>exact absurd (show false=true from b) Ft
 | str i =>
  obtain⟨t,rfl⟩:=c;cases y with
  | non=>cases a;exact PySem.EqNone.ne_str_none (Dq I q (by simp))
  | bl j=>cases a;exact PySem.EqMixed.ne_str_bool (Dq I q (by simp))
  | int j=>obtain⟨t',rfl⟩:=a;exact PySem.EqMixed.ne_str_int (Dq I q (by simp))
  | str j=>obtain⟨t',rfl⟩:=a;exact ne_str (Dq I q (congrArg not rT))
  | _=>exact absurd (show false=true from b) Ft
 | byt i =>
  obtain⟨t,rfl⟩:=c;cases y with
  | byt j=>obtain⟨t',rfl⟩:=a;exact PySem.W.ne_bytes (Dq I q (congrArg not rQ))
  | _=>exact absurd (show false=true from b) Ft
 | _=>cases y<;>exact absurd (show false=true from b) Ft
theorem Nk:C_ X (compareOp .Lt) (Kg λi j=>.bl (decide (i<j))):=Ly λ_ _ _ _ _ _ _ q=>lt_int q
theorem mY:C_ X (compareOp .LtE) (Kg λi j=>.bl (decide (i<=j))):=Ly λ_ _ _ _ _ _ _ q=>le_int q
theorem VH:C_ X (compareOp .Gt) (Kg λi j=>.bl (decide (j<i))):=Ly λ_ _ _ _ _ _ _ q=>gt_int q
theorem VG:C_ X (compareOp .GtE) (Kg λi j=>.bl (decide (j<=i))):=Ly λ_ _ _ _ _ _ _ q=>ge_int q
theorem Y4f:C_ X (compareOp .In) (λx y H Q=>∃i j,x=.str i/\y=.str j/\Q (.bl (!(Builtin.Str.occurrences j i 0 j.length 1).isEmpty)) H):=by
 intro pins s σ H x y v u Q I b a h;obtain⟨i,j,rfl,rfl,q⟩:=h;obtain⟨t,rfl⟩:=b;obtain⟨t',rfl⟩:=a;exact in_str (Dq I q rfl)
theorem X6d:C_ X (compareOp .Is) (λx y H Q=>y=.non/\Q (.bl (decide (x=.non))) H):=by
 intro pins s σ H x y v u Q I a b h;obtain⟨rfl,q⟩:=h;cases b;refine is_none_gen (Dq I q ?_);cases x<;>first
  | (cases a;rfl)
  | (obtain⟨t,rfl⟩:=a;rfl)
variable{op:CmpOp}
theorem Ac(b:Expr)(h:op≠.In:=by decide)(h2:op≠.NotIn:=by decide):behindInMarks op b=false:=by
 have c:(op == CmpOp.In)=false:=by cases op<;>first | rfl | exact absurd rfl h
 have a:(op == CmpOp.NotIn)=false:=by cases op<;>first | rfl | exact absurd rfl h2
 cases b<;>simp[behindInMarks,c,a]
theorem JB{r:R2}(ho:C_ X (compareOp op) r)(ha:PE X a ta)(hb:PE X b tb)(hm:behindInMarks op b=false):PE X (.Compare a [op] [b] pos) (M5 r ta tb):=by
 intro pins s σ H Q I h;exact wpAny_Compare1 (O1 ha hb I h λv u e x y H2 f c d q=>ho pins e σ H2 x y v u Q f c d q) hm
def Q0 (t:TE):TT:=λσ H Q=>t σ H λx H'=>∃k,x=.bl k/\Q k H'
theorem Bq{r:R2}(ho:C_ X (compareOp op) r)(ha:PE X a ta)(hb:PE X b tb)(hm:behindInMarks op b=false):PT X (.Compare a [op] [b] pos) (Q0 (M5 r ta tb)):=by
 intro pins s σ H Q I h
 refine oW (BW (ha pins s σ H _ I h) λv n ⟨x,H1,d,o,m⟩=>BW (hb pins n σ H1 _ d m) λu q ⟨y,H2,t,j,g⟩ =>
  BW (ho pins q σ H2 x y v u _ t o j g) λc w ⟨z,l,f,p,k,e,i⟩=>?_) hm
 subst e;cases p;exact Lx ⟨l,f,i⟩
def m7 (K:U0)(x:V)(H:Hp)(k:Bool):Prop :=
 match x with
 | .non=>k=false
 | .bl b=>k=b
 | .int i=>k=(i != 0)
 | .str y=>y.length<=sizeLine/\k=((y.length:Int) != 0)
 | .byt y=>y.size<=sizeLine/\k=((y.size:Int) != 0)
 | .ref p=>(∃xs,Af K H p xs/\k=!xs.isEmpty)\/(∃xs,Ah K H p xs/\k=!xs.isEmpty)\/∃kvs,H p=some (.dK kvs)/\k=!kvs.isEmpty
 | _=>False
theorem Y2k{κ:Type}{kvs:List (κ×V)}{vs:List (κ×Value)}(r:KV kvs vs):(!vs.isEmpty)=!kvs.isEmpty:=by
 cases r<;>rfl
theorem qQ{its:U5}(r:Vals xs its):(!its.toArray.isEmpty)=!xs.isEmpty:=by
 cases r<;>simp
theorem Ec:(sizeLine:Nat)<2^63:=by rw[sizeLine_eq];decide
theorem X5j:m8 X (λx H Q=>∃k,m7 X.K x H k/\Q k H):=by
 intro pins s σ H x v Q I d h;obtain⟨k,e,q⟩:=h;have n:=Ec;have l:sizeLine=16777216:=sizeLine_eq;cases x with
 | non =>
  cases d;have a:k=false:=e;subst a;exact truthy_none ⟨H,I,q⟩
 | bl b =>
  cases d;have a:k=b:=e;subst a;exact Lx ⟨H,I,q⟩
 | int i =>
  obtain⟨t,rfl⟩:=d;have a:k=(i != 0):=e;subst a;exact PySem.P.truthy_int ⟨H,I,q⟩
 | str y =>
  obtain⟨t,rfl⟩:=d;obtain⟨j,a⟩:y.length<=sizeLine/\k=((y.length:Int) != 0):=e;subst a;exact PySem.P.truthy_str (by omega) ⟨H,I.tok _,q⟩
 | byt y =>
  obtain⟨t,rfl⟩:=d;obtain⟨j,a⟩:y.size<=sizeLine/\k=((y.size:Int) != 0):=e;subst a;exact PySem.W.truthy_bytes (by omega) ⟨H,I.tok _,q⟩
 | ref p =>
  cases d;have a:(∃xs,Af X.K H p xs/\k=!xs.isEmpty)\/(∃xs,Ah X.K H p xs/\k=!xs.isEmpty)\/∃kvs,H p=some (.dK kvs)/\k=!kvs.isEmpty:=e;rcases a with ⟨xs,hx,a⟩ | ⟨xs,hx,a⟩ | ⟨kvs,hx,a⟩
  ·subst a;obtain⟨its,r,pl,f⟩:=I.list hx;have c:=r.length;exact wpAny_truthy_list pl.isList (by simp only[Eb];omega) ⟨H,I.tok _,by rw[qQ r];exact q⟩
  ·subst a;obtain⟨its,r,pl,f⟩:=I.tuple hx;have c:=r.length;exact truthy_tuple pl (by simp only[Eb];omega) ⟨H,I.tok _,by rw[qQ r];exact q⟩
  ·subst a;obtain⟨f,g,vs,r,m⟩:kvs.length<=sizeLine/\(p == sysModules)=false/\∃vs,KV kvs vs/\s.heap.DictOf (Nv X.prog X.w) p vs:=I.hok p _ hx;have c:kvs.length=vs.length:=Paired.length r;exact wpAny_truthy_dict g m (by omega) ⟨H,I.tok _,by rw[Y2k r];exact q⟩
 | _=>exact(show False from e).elim
theorem J6:C_ X (binaryOp .Add) (λx y H Q=>∃i j,x=.str i/\y=.str j/\i.length+j.length<=sizeLine/\Q (.str (i++j)) H):=by
 intro pins s σ H x y v u Q I b a h;obtain⟨i,j,rfl,rfl,c,q⟩:=h;obtain⟨t,rfl⟩:=b;obtain⟨t',rfl⟩:=a;exact add_str (λt' tk=>⟨.str (i++j),H,I.tok _,⟨_,U⟩,q⟩) c
theorem vals1(r:Vals [x] us):∃u,us=[u]/\RelV x u:=by
 cases r with
 | cons r1 r2=>cases r2;exact⟨_,rfl,r1⟩
theorem vals2(r:Vals [x,y] us):∃u w',us=[u,w']/\RelV x u/\RelV y w':=by
 cases r with
 | cons r1 r2 =>
  cases r2 with
  | cons r3 r4=>cases r4;exact⟨_,_,rfl,r1,r3⟩
theorem Wc:CJ X (.builtin "abs") (λxs H Q=>∃i,xs=[.int i]/\Q (.int (if i<0 then -i else i)) H):=by
 intro pins s σ H xs us Q I r h;obtain⟨i,rfl,q⟩:=h;obtain⟨u,rfl,t,rfl⟩:=vals1 r;exact call_abs_int λu tk=>⟨.int (if i<0 then -i else i),H,I.tok _,⟨_,U⟩,q⟩
theorem Y6l(hc:X.calm=true):CJ X (.builtin "max") (λxs H Q=>∃i j,xs=[.int i,.int j]/\Q (.int (if j>i then j else i)) H):=by
 intro pins s σ H xs us Q I r h;obtain⟨i,j,rfl,q⟩:=h;obtain⟨u,a,rfl,⟨t,rfl⟩,⟨t',rfl⟩⟩:=vals2 r;refine max_two_ints (I.ok.hd hc) λh' tk k=>⟨_,H,I.kept k,?_,q⟩;by_cases hj:j>i
 ·rw[if_pos hj,if_pos hj];exact⟨_,U⟩
 ·rw[if_neg hj,if_neg hj];exact⟨_,U⟩
theorem Y6k(hc:X.calm=true):CJ X (.builtin "min") (λxs H Q=>∃i j,xs=[.int i,.int j]/\Q (.int (if j<i then j else i)) H):=by
 intro pins s σ H xs us Q I r h;obtain⟨i,j,rfl,q⟩:=h;obtain⟨u,a,rfl,⟨t,rfl⟩,⟨t',rfl⟩⟩:=vals2 r;refine min_two_ints (I.ok.hd hc) λh' tk k=>⟨_,H,I.kept k,?_,q⟩;by_cases hj:j<i
 ·rw[if_pos hj,if_pos hj];exact⟨_,U⟩
 ·rw[if_neg hj,if_neg hj];exact⟨_,U⟩
theorem Y6n:CJ X (.type "int") (λxs H Q=>(∃i,xs=[.int i]/\Q (.int i) H)\/∃k,xs=[.bl k]/\Q (.int (if k then 1 else 0)) H):=by
 intro pins s σ H xs us Q I r h;rcases h with ⟨i,rfl,q⟩ | ⟨k,rfl,q⟩
 ·obtain⟨u,rfl,t,rfl⟩:=vals1 r;exact call_int_int ⟨.int i,H,I,⟨_,U⟩,q⟩
 ·obtain⟨u,rfl,a⟩:=vals1 r;cases a;exact call_int_bool ⟨.int (if k then 1 else 0),H,I.tok _,⟨_,U⟩,q⟩
theorem PN:CJ X (.type "str") (λxs H Q=>∃i,xs=[.int i]/\i.natAbs.log2<1920/\Q (.str (toString i)) H):=by
 intro pins s σ H xs us Q I r h;obtain⟨i,rfl,a,q⟩:=h;obtain⟨u,rfl,t,rfl⟩:=vals1 r;exact PySem.P.str_of_int a ⟨.str _,H,I.tok _,⟨_,U⟩,q⟩
end
structure JG (h:Heap) (x dx C:Y0) (mA:U4):Prop where
 obj:h.get? x=some (PySem.W.instObj C dx)
 ns:h.Ns1 dx mA
 ne:dx≠x
theorem Y5c{dx:Y0}{mA:U4}(n:h.Ns1 dx mA):∃od,h.get? dx=some od/\∀name,PySem.W.lookIn name od=some (mA name):=by
 obtain⟨o,es,ep,d,c,f,_,g⟩:=n;refine⟨o,d,λname=>?_⟩;have e:=g name;unfold nsFind findBy at e;rw[<-Array.find?_toList]at e;unfold PySem.W.lookIn;rw[c];dsimp only;split
 ·rename_i y q;rw[q]at e;exact congrArg some e
 ·rename_i q;rw[q]at e;have a:es.toList.any (·.refKey)=false:=by
   rw[List.any_eq_false];intro y i;obtain⟨z,t,b⟩:=f y (Array.mem_toList_iff.mp i);simp[DictEntry.refKey,b]
  have a':¬ es.toList.any (·.refKey)=true:=by rw[a];exact Ft
  rw[if_neg a'];exact congrArg some e
variable{C:Y0}
theorem JG.look{x dx:Y0}{mA:U4}(I:JG h x dx C mA):∃od,PySem.W.InstAt h x (PySem.W.instObj C dx) C (some od)/\∀name,PySem.W.lookIn name od=some (mA name):=
 let ⟨od,ho,hl⟩:=Y5c I.ns
 ⟨od,⟨I.obj,U,U,ho⟩,hl⟩
section
variable {prog:U8}{w:W1}{A:W7}{E:U2}{s:U7}{K:U0}{x dx C f:Y0}{mA:U4}{name:Str}{v:W2}
theorem X3z{expr:Bool}{Q:U2}(X:K.In s.heap)(I:JG s.heap x dx C mA)(hg:PySem.W.plainGet K C name=true)(hh:PySem.W.hasDictIn K C=true)
  (ha:PySem.W.findIn K (.ref C) name=some none) (hv:mA name=some v) (hv':PySem.W.handedIn v=true) (h:Q v {s with toks:=s.toks+1}):
  wpAny (model prog w) A (getAttr (.ref x) name expr) Q E s:=by
 obtain⟨b,J,a⟩:=I.look;exact PySem.W.get_value X J (Yq hg).1 (PySem.W.findObj_own hh ha rfl (by rw[a,hv])) hv' h
theorem _J{pl:Sem Bool}{Q:Value×List Value->Shared->Prop}(X:K.In s.heap)(I:JG s.heap x dx C mA)(hg:PySem.W.plainGet K C name=true)
  (hf:PySem.W.findIn K (.ref C) name=some (some (.ref f))) (ht:PySem.W.isFn K (.ref f)=true) (hv:mA name=none) (h:Q (.ref f,[.ref x]) s):
  wpAny (model prog w) A (getMethod (.ref x) name pl) Q E s:=by
 obtain⟨a,J,b⟩:=I.look;exact PySem.W.method_fn X J (Yq hg).1 (Yq hg).2 hf (beq_iff_eq.mp ht) (by show (PySem.W.lookIn name a).map (·.isSome)=some false;rw[b,hv];rfl) h
theorem X1u{ns:W0}(X:K.In s.heap)(I:JG s.heap x dx C mA)
  (hs:PySem.W.findIn K (.ref C) "__setattr__"=some (some (.builtin "object.__setattr__"))) (hp:PySem.W.plainOver K C=true) (ht:PySem.W.takerIn K C name=some none) (hh:PySem.W.hasDictIn K C=true)
  (hw:PySem.Within mA ns) (hsz:ns.length<=sizeLine)
  (h:∀h',JG h' x dx C (λy=>if y=name then some v else mA y)->Heap.SameBut dx s.heap h'->Q () {s with heap:=h',toks:=s.toks+2}):
  wpAny (model prog w) A (setAttr (.ref x) name v) Q E s:=by
 obtain⟨q,J,n⟩:=I.look;refine PySem.W.set_plain X J hs (PySem.W.osa_open (s:={s with toks:=s.toks+1}) (r:=none) X J hp ht λb=>?_);obtain⟨o,m,f⟩:=PySem.W.any_some hh;have j:s.heap.get? x=some ⟨.ref C,some dx,.plain,#[]⟩:=I.obj;refine Bm (CW (Bm (Bm (wpAny_loadPart j (Bm (PySem.W.Looks.here (s:={s with toks:=s.toks+1}) (PySem.W.looks_clsIn X m) ?_))))));rw[f];refine CW (a:=some dx) (Bm (CW (Bm ?_)));refine wpAny_nsSet1 (s:={s with toks:=s.toks+1}) I.ns λh' c d=>?_;obtain⟨p,l,k,i,g,e⟩:=c.count (PySem.Within.cons name v hw);refine Bm (wpAny_lookBehind i (by rw[g];exact pastItsLine_dict (Cv e (by rw[NQ];omega))) ?_);exact CW (h _ ⟨(d.2 _ (Ne.symm I.ne)).trans I.obj,c,I.ne⟩ d)
theorem _j{R:Result->Shared->Prop}{vs:U5}{kw:List (Str×Value)}(X:K.In s.heap)(hm:PySem.W.makesIn K C=true)
  (hi:PySem.W.findIn K (.ref C) "__init__"=some (some (.ref f))) (hf:PySem.W.typeIn K (.ref f)=some (.type "function"))
  (h:codeAny (model prog w) (A.under (.builtin "type.__call__" ⟨.ref C::vs,kw⟩)) (.call (.ref f) ⟨.ref (s.heap.objs.size+1)::vs,kw⟩) (PySem.W.InitBack (s.heap.objs.size+1) R)
   {s with heap:=(s.heap.push PySem.W.emptyDict).push (PySem.W.instObj C s.heap.objs.size)}):
  codeAny (model prog w) A (.call (.ref C) ⟨vs,kw⟩) R s:=by
 obtain⟨a,g,d,t,os⟩:=s;exact PySem.W.make_core (PySem.W.makes_of X hm) (PySem.W.looks_findIn X hi) (λself=>PySem.W.bind_fn X self hf) (.inl rfl) h
end
noncomputable def Dp (f:Str)(v:V):List (Str×V)->List (Str×V)
 | []=>[(f,v)]
 | (g,x)::r=>if g=f then (g,v)::r else (g,x)::Dp f v r
theorem qd(f g:Str)(v:V):∀fs:List (Str×V),(Dp f v fs).lookup g=if g=f then some v else fs.lookup g
 | []=>by
  show List.lookup g [(f,v)]=_;by_cases h:g=f
  ·have hb:(g == f)=true:=beq_iff_eq.mpr h;simp only[List.lookup,hb,if_pos h]
  ·have hb:(g == f)=false:=beq_eq_false_iff_ne.mpr h;simp only[List.lookup,hb,if_neg h]
 | (k,x)::r=>by
  have a:=qd f g v r;rw[show Dp f v ((k,x)::r)=(if k=f then (k,v)::r else (k,x)::Dp f v r) from rfl];by_cases hk:k=f
  ·rw[if_pos hk];by_cases h:g=k
   ·have hb:(g == k)=true:=beq_iff_eq.mpr h;simp only[List.lookup,hb,if_pos (h.trans hk)]
   ·have hb:(g == k)=false:=beq_eq_false_iff_ne.mpr h;simp only[List.lookup,hb,if_neg (λe:g=f=>h (e.trans hk.symm))]
  ·rw[if_neg hk];by_cases h:g=k
   ·have hb:(g == k)=true:=beq_iff_eq.mpr h;simp only[List.lookup,hb,if_neg (λe:g=f=>hk (h.symm.trans e))]
   ·have hb:(g == k)=false:=beq_eq_false_iff_ne.mpr h;simp only[List.lookup,hb];exact a
theorem lU(f:Str)(v:V):∀fs:List (Str×V),f∈(Dp f v fs).map (·.1)/\∀g,g∈fs.map (·.1)->g∈(Dp f v fs).map (·.1)
 | []=>⟨by simp[Dp],λg h=>by simp at h⟩
 | (k,x)::r=>by
  obtain⟨a,b⟩:=lU f v r;rw[show Dp f v ((k,x)::r)=(if k=f then (k,v)::r else (k,x)::Dp f v r) from rfl];by_cases hk:k=f
  ·rw[if_pos hk];subst hk;exact⟨by simp,λg h=>by simpa using h⟩
  ·rw[if_neg hk];refine⟨?_,λg h=>?_⟩
   ·rw[Ls];exact Hx _ a
   ·rw[Ls]at h ⊢;rcases Cy.mp h with e | e
    ·exact Cy.mpr (.inl e)
    ·exact Hx _ (b g e)
theorem qb(f:Str)(v:V):∀fs:List (Str×V),(Dp f v fs).length<=fs.length+1
 | []=>by simp[Dp]
 | (k,x)::r=>by
  have a:=qb f v r;rw[show Dp f v ((k,x)::r)=(if k=f then (k,v)::r else (k,x)::Dp f v r) from rfl];by_cases hk:k=f
  ·rw[if_pos hk,NQ,NQ];omega
  ·rw[if_neg hk,NQ,NQ];omega
variable{o:Option Value}
theorem D_.some_of{v:V}(r:D_ (some v) o):∃u,o=some u/\RelV v u:=by
 cases o with
 | none=>exact(show False from r).elim
 | some u=>exact⟨u,rfl,r⟩
theorem D_.none_of(r:D_ none o):o=none:=by
 cases o with
 | none=>rfl
 | some u=>exact(show False from r).elim
theorem Y5s{v:V}(r:RelV v u):PySem.W.handedIn u=true:=by
 cases v with
 | non=>cases (show u=Value.none from r);rfl
 | bl b=>cases (show u=Value.bool b from r);rfl
 | int i=>obtain⟨t,e⟩:=(show ∃t,u=Value.int i t from r);cases e;rfl
 | str x=>obtain⟨t,e⟩:=(show ∃t,u=Value.str x t from r);cases e;rfl
 | byt b=>obtain⟨t,e⟩:=(show ∃t,u=Value.bytes b t from r);cases e;rfl
 | flt b=>obtain⟨t,e⟩:=(show ∃t,u=Value.float b t from r);cases e;rfl
 | ref a=>cases (show u=Value.ref a from r);rfl
 | ty n=>cases (show u=Value.type n from r);rfl
section
variable {P:U8}{w:W1}{H H':Hp}{h h':Heap}{a C dx:Y0}{fs fs':List (Str×V)}
theorem WK(hok:FJ P w H h)(e:H a=some (.ins C dx fs)):∃mA,JG h a dx C mA/\(∀f,D_ (fs.lookup f) (mA f))/\PySem.Within mA (fs.map (·.1))/\fs.length<=1000/\H dx=some (.own a):=by
 obtain⟨d,z,c,b,mA,n,r,q⟩:=(show B_ P w H h a (.ins C dx fs) from hok a _ e);exact⟨mA,⟨b,n,c⟩,r,q,z,d⟩
end
structure Cls (K:U0) (C:Y0):Prop where
 pg:PySem.W.plainGet K C Str.empty=true
 hd:PySem.W.hasDictIn K C=true
 po:PySem.W.plainOver K C=true
 sa:PySem.W.findIn K (.ref C) "__setattr__"=some (some (.builtin "object.__setattr__"))
theorem Cls.get{K:U0}{C:Y0}(c:Cls K C)(f:Str):PySem.W.plainGet K C f=true:=c.pg
def Ca (K:U0)(C:Y0)(f:Str):Prop:=PySem.W.findIn K (.ref C) f=some none
theorem Ca.taker{f:Str}(n:Ca K C f):PySem.W.takerIn K C f=some none:=by
 unfold PySem.W.takerIn;rw[show PySem.W.findIn K (.ref C) f=some none from n];rfl
structure Meth (K:U0) (C:Y0) (m:Str) (f:Y0):Prop where
 at_:PySem.W.findIn K (.ref C) m=some (some (.ref f))
 fn:PySem.W.isFn K (.ref f)=true
 kp:PySem.W.keepIn K (.ref f)=true
section
variable {X:Cx}{pins:U1}{σ:St}{H:Hp}{s:U7}{a C dx:Y0}{fs:List (Str×V)}{f:Str}{v:V}{A:W7}{E:U2}
theorem Y2l{b:Bool}{Q:U2}(I:Inv X pins σ H s)(e:H a=some (.ins C dx fs))(c:Cls X.K C)(n:Ca X.K C f)(l:fs.lookup f=some v)
  (h:∀u s',Inv X pins σ H s'->RelV v u->Q u s'):wpAny (model X.prog X.w) A (getAttr (.ref a) f b) Q E s:=by
 obtain⟨mA,O,r,_,_,_⟩:=WK I.hok e;obtain⟨u,g,d⟩:=D_.some_of (v:=v) (o:=mA f) (by rw[<-l];exact r f);exact X3z I.kIn O (c.get f) c.hd n g (Y5s d) (h u _ (I.tok _) d)
theorem qP{m:Str}{g:Y0}{pl:Sem Bool}{Q:Value×List Value->Shared->Prop}(I:Inv X pins σ H s)(e:H a=some (.ins C dx fs))(c:Cls X.K C)(k:Meth X.K C m g)(l:fs.lookup m=none)
  (h:Q (.ref g,[.ref a]) s):wpAny (model X.prog X.w) A (getMethod (.ref a) m pl) Q E s:=by
 obtain⟨mA,O,r,_,_,_⟩:=WK I.hok e;have b:mA m=none:=D_.none_of (by rw[<-l];exact r m);exact _J I.kIn O (c.get m) k.at_ k.fn b h
theorem Y1x(I:Inv X pins σ H s)(e:H a=some (.ins C dx fs))(c:Cls X.K C)(n:Ca X.K C f)(hl:fs.length<1000)(ry:RelV y u)
  (h:∀s',Inv X pins σ (upd H a (.ins C dx (Dp f y fs))) s'->Q () s'):wpAny (model X.prog X.w) A (setAttr (.ref a) f u) Q E s:=by
 obtain⟨mA,O,r,wi,_,i⟩:=WK I.hok e;have l:(fs.map (·.1)).length<=sizeLine:=by rw[BJ,sizeLine_eq];omega
 refine X1u I.kIn O c.sa c.po n.taker c.hd wi l λh' d j=>h _ ?_;have hd:∃o,h'.get? dx=some o:=let ⟨o,_,_,e',_⟩:=d.ns;⟨o,e'⟩;refine I.write (x:=a) (e:=dx) (by rw[e];exact True.intro) (.inr i) (λb q hb z=>(j.2 b hb).trans z) hd ?_;refine⟨by rw[CK O.ne];exact i,?_,O.ne,d.obj,_,d.ns,λg=>?_,λg k=>?_⟩
 ·have:=qb f y fs;omega
 ·show D_ ((Dp f y fs).lookup g) (if g=f then some u else mA g);rw[qd];by_cases q:g=f
  ·rw[if_pos q,if_pos q];exact ry
  ·rw[if_neg q,if_neg q];exact r g
 ·by_cases q:g=f
  ·rw[q];exact(lU f y fs).1
  ·refine(lU f y fs).2 g (wi g λz=>k ?_);show (if g=f then some u else mA g)=none;rw[if_neg q];exact z
theorem Inv.made(I:Inv X pins σ H s):Inv X pins σ (upd (upd H s.heap.objs.size (.own (s.heap.objs.size+1))) (s.heap.objs.size+1) (.ins C s.heap.objs.size []))
  {s with heap:=(s.heap.push PySem.W.emptyDict).push (PySem.W.instObj C s.heap.objs.size)}:=by
 have c:(s.heap.push PySem.W.emptyDict).get? s.heap.objs.size=some PySem.W.emptyDict:=Ej s.heap rfl;have h:((s.heap.push PySem.W.emptyDict).push (PySem.W.instObj C s.heap.objs.size)).get? (s.heap.objs.size+1)=some (PySem.W.instObj C s.heap.objs.size):=by
  have:=Ej (s.heap.push PySem.W.emptyDict) (o:=PySem.W.instObj C s.heap.objs.size) rfl;rwa [Ij]at this
 have i:(s.heap.push PySem.W.emptyDict).Ns s.heap.objs.size (λ_=>none):=⟨PySem.W.emptyDict,#[],_,c,U,(λe f=>absurd f (by simp)),λ_=>rfl⟩;have g:=I.laid (a:=s.heap.objs.size) (o:=.own (s.heap.objs.size+1)) (h':=s.heap.push PySem.W.emptyDict) (t':=s.toks) (λb u q=>Df _ q) (Bj _) ⟨_,c⟩;refine g.laid (a:=s.heap.objs.size+1) (o:=.ins C s.heap.objs.size []) (t':=s.toks) (λb u q=>Df _ q) (YD (Ij _ _)) ?_;have d:s.heap.objs.size≠s.heap.objs.size+1:=Cw (Px _);refine⟨by rw[CK d,Ao],Dz _,d,h,λ_=>none,(Heap.Ns1.of_empty i).at λo q=>Df _ q,λ_=>True.intro,λy j=>absurd rfl j⟩
theorem X4h{prog:U8}{env:Env}{pos:Pos}{Q:U2}(hb:attributeBase e f env (eval e env)=eval e env)
  (h:wpAny (model prog w) A (eval e env) (λo a=>wpAny (model prog w) A (getAttr o f true) Q E a) E s):wpAny (model prog w) A (eval (.Attribute e f pos) env) Q E s :=
 Attribute_any_ h (by rw[arm_eval_Attribute,hb])
end
def RD (K:U0)(ta:TE)(f:Str):TE:=λσ H Q=>ta σ H λx H1=>∃a C dx fs v,x=.ref a/\H1 a=some (.ins C dx fs)/\Cls K C/\Ca K C f/\fs.lookup f=some v/\Q v H1
def Xx (K:U0)(ta tv:TE)(f:Str):TS:=λD σ H=>tv σ H λy H1=>ta σ H1 λx H2=>∃a C dx fs,x=.ref a/\H2 a=some (.ins C dx fs)/\Cls K C/\Ca K C f/\fs.length<1000 /\
 D.nx σ (upd H2 a (.ins C dx (Dp f y fs)))
section
variable {X:Cx}{o e value:Expr}{f:Str}{pos pos' tpos:Pos}{ta tv:TE}
theorem La(he:PE X e ta)(hb:attributeBase e f X.env (eval e X.env)=eval e X.env):PE X (.Attribute e f pos) (RD X.K ta f):=by
 intro pins s σ H Q I h;refine X4h hb (BW (he pins s σ H _ I h) λu k ⟨x,H1,b,d,a,C,dx,fs,v,ex,g,c,n,l,q⟩=>?_);subst ex;obtain rfl:u=Value.ref a:=d;exact Y2l b g c n l λm o i j=>⟨v,H1,i,j,q⟩
theorem Nt(ha:PE X o ta)(hv:PE X value tv)(hs:swapsWith value (some (.Attribute o f pos')) pos.line X.env=pure false):PS X (.Assign [.Attribute o f pos'] value pos) (Xx X.K ta tv f):=by
 intro pins s σ H D I h;refine plainObj_wpAny_Assign_Attribute (BW (hv pins s σ H _ I h) λu j ⟨y,H1,b,i,q⟩=>BW (ha pins j σ H1 _ b q) λg r ⟨x,H2,p,k,a,C,dx,fs,ex,m,c,n,l,e⟩=>?_) hs;subst ex;obtain rfl:g=Value.ref a:=k;exact Y1x p m c n l i λt d=>⟨σ,_,d,e⟩
end
section
variable {X:Cx}{pins:U1}{σ:St}{H:Hp}{s:U7}{A:W7}{E:U2}{Q:U2}{c:W2}{b:Bool}
inductive CZ (K:U0) (H:Hp):V->Value->Prop where
 | non:CZ K H .non (.type "NoneType")
 | bl (x:Bool):CZ K H (.bl x) (.type "bool")
 | int (i:Int):CZ K H (.int i) (.type "int")
 | str (x:Str):CZ K H (.str x) (.type "str")
 | flt (x:UInt64):CZ K H (.flt x) (.type "float")
 | lst {a:Y0}{xs:List V} (e:H a=some (.lst xs)):CZ K H (.ref a) (.type "list")
 | frz {a:Y0}{o:Obj}{xs:List V} (e:H a=some (.frz o (.lst xs))):CZ K H (.ref a) (.type "list")
 | tup {a:Y0}{xs:List V} (e:H a=some (.tup xs)):CZ K H (.ref a) (.type "tuple")
 | dK {a:Y0}{kvs:List (Key×V)} (e:H a=some (.dK kvs)):CZ K H (.ref a) (.type "dict")
 | dT {a:Y0}{kvs:List (List Key×V)} (e:H a=some (.dT kvs)):CZ K H (.ref a) (.type "dict")
 | ins {a C dx:Y0}{fs:List (Str×V)} (e:H a=some (.ins C dx fs)) (cl:Cls K C) (ha:PySem.W.findIn K (.ref C) "__class__"=some (some (.builtin "object.__class__")))
   (hn:PySem.W.specialIn K (.builtin "object.__class__") "__get__"=some (some (.builtin "getset_descriptor.__get__"))) (htk:PySem.W.takesIn K (.builtin "object.__class__")=some true)
   (hm:PySem.W.mroIn K C (.type "object")=some true):CZ K H (.ref a) (.ref C)
theorem Y5o{t:W2}(I:Inv X pins σ H s)(rx:RelV x u)(ty:CZ X.K H x t)(e:PySem.W.kitOne X.K t c=some b)(h:∀tk,Q (.bool b) {s with toks:=tk}):
  wpAny (model X.prog X.w) A (call (.builtin "isinstance") [u,c]) Q E s:=by
 cases ty with
 | non=>cases (show u=Value.none from rx);exact J0 PySem.W.kitx_none I.kIn True.intro e (λz=>nomatch z) h
 | bl y=>cases (show u=Value.bool y from rx);exact J0 PySem.W.kitx_bool I.kIn True.intro e (λz=>nomatch z) h
 | int i=>obtain⟨t,q⟩:=(show ∃t,u=Value.int i t from rx);cases q;exact J0 PySem.W.kitx_int I.kIn True.intro e (λz=>nomatch z) h
 | str y=>obtain⟨t,q⟩:=(show ∃t,u=Value.str y t from rx);cases q;exact J0 PySem.W.kitx_str I.kIn True.intro e (λz=>nomatch z) h
 | flt y=>obtain⟨t,q⟩:=(show ∃t,u=Value.float y t from rx);cases q;exact J0 PySem.W.kitx_float I.kIn True.intro e (λz=>nomatch z) h
 | @lst a xs ea =>
  cases (show u=Value.ref a from rx);obtain⟨_,_,n,_,h1⟩:=(show B_ X.prog X.w H s.heap a (.lst xs) from I.hok a _ ea);exact J0 PySem.W.kitx_list I.kIn ⟨_,h1,U⟩ e (λz=>nomatch z) h
 | @frz a ob xs ea =>
  cases (show u=Value.ref a from rx);obtain⟨_,_,_,n,_,h1⟩:=(show B_ X.prog X.w H s.heap a (.frz ob (.lst xs)) from I.hok a _ ea);exact J0 PySem.W.kitx_list I.kIn ⟨_,h1,U⟩ e (λz=>nomatch z) h
 | @tup a xs ea =>
  cases (show u=Value.ref a from rx);obtain⟨_,_,_,p⟩:=(show B_ X.prog X.w H s.heap a (.tup xs) from I.hok a _ ea);obtain⟨o,h1,h2,_⟩:=p;exact J0 PySem.W.kitx_tuple I.kIn ⟨o,h1,h2⟩ e (λz=>nomatch z) h
 | @dK a kvs ea =>
  cases (show u=Value.ref a from rx);obtain⟨_,_,vs,_,p⟩:=(show B_ X.prog X.w H s.heap a (.dK kvs) from I.hok a _ ea);obtain⟨o,es,ep,h1,h2,_⟩:=p;exact J0 PySem.W.kitx_dict I.kIn ⟨o,h1,h2.1⟩ e (λz=>nomatch z) h
 | @dT a kvs ea =>
  cases (show u=Value.ref a from rx);obtain⟨_,_,xs,_,o,es,ep,h1,h2,_⟩:=(show B_ X.prog X.w H s.heap a (.dT kvs) from I.hok a _ ea);exact J0 PySem.W.kitx_dict I.kIn ⟨o,h1,h2.1⟩ e (λz=>nomatch z) h
 | @ins a C dx fs ea cl ha hn htk hm =>
  cases (show u=Value.ref a from rx);obtain⟨mA,O,_⟩:=WK I.hok ea;obtain⟨d,J,_⟩:=O.look;exact J0 (PySem.W.kitx_own (cl.get _) cl.hd ha hn htk hm) I.kIn J e (λz=>nomatch z) h
end
structure Bl (k:Nat) (A:W7):Prop where
 hd:A.handled=none
 dp:A.depth+3*k+5<recursionLimit
 un:A.units+16*k+200<cLine
variable{k:Nat}
theorem Bl.mono{j:Nat}(r:Bl k A)(h:j<=k):Bl j A:=⟨r.hd,by have:=r.dp;omega,by have:=r.un;omega⟩
theorem Bl.deeper(r:Bl (k+1) A)(env:Env):Bl k (A.deeper env):=
 ⟨r.hd,by have:=r.dp;show A.depth+1+3*k+5<_;omega,by have:=r.un;show A.units+3+16*k+200<_;omega⟩
variable{kw:List (Str×Value)}
theorem Y2i:(A.under (.builtin "type.__call__" ⟨.ref C::us,kw⟩)).depth=A.depth+1:=by
 first | rfl | simp[Around.under,Code.weight,Code.isCreation,Code.isGuard,Code.isCaller,Code.frames,Code.isFrame,guardIds]
theorem Y2h:(A.under (.builtin "type.__call__" ⟨.ref C::us,kw⟩)).units=A.units+1:=by
 first | rfl | simp[Around.under,Code.cUnits,Code.frames,Code.isFrame]
theorem Bl.make(r:Bl (k+1) A)(C:Y0)(us:U5)(kw:List (Str×Value)):Bl k (A.under (.builtin "type.__call__" ⟨.ref C::us,kw⟩)):=
 ⟨r.hd,by have:=r.dp;rw[Y2i];omega,by have:=r.un;rw[Y2h];omega⟩
theorem Bl.depth(r:Bl k A):A.depth<recursionLimit:=by have:=r.dp;omega
theorem Bl.units(r:Bl k A):A.units+64<cLine:=by have:=r.un;omega
def KD:TA:=λ_ H Q=>Q [] H
def G_ (ta:TE)(tr:TA):TA:=λσ H Q=>ta σ H λx H1=>tr σ H1 λxs H2=>Q (x::xs) H2
section
variable {X:Cx}{e:Expr}{es:List Expr}{te:TE}{t:TA}{pos:Pos}
theorem Ae:PA X [] KD:=λ_ _ _ _ H Q I h=>Calls.spliced_nil ⟨[],H,I,.nil,h⟩
theorem Ab(ha:PE X e te)(hr:PA X es t)(hs:starEach (e::es) X.env=(false,eval e X.env)::starEach es X.env:=by rfl):PA X (e::es) (G_ te t):=by
 intro pos pins s σ H Q I h;rw[hs];show wpAny _ _ (spliced ((false,eval e X.env)::backTo pos (starEach es X.env))) _ _ s;refine Calls.spliced_cons (BW (ha pins s σ H _ I h) λu f ⟨x,H1,a,g,d⟩=>?_);exact BW (hr pos pins f σ H1 _ a d) λus j ⟨xs,H2,i,c,b⟩=>⟨x::xs,H2,i,.cons g c,b⟩
def Qy (t:TA):TE:=λσ H Q=>t σ H λxs H1=>xs.length<=sizeLine/\∀p,H1 p=none->Q (.ref p) (upd H1 p (.tup xs))
def Xn (t:TA):TE:=λσ H Q=>t σ H λxs H1=>xs.length<=sizeLine/\∀p,H1 p=none->Q (.ref p) (upd H1 p (.lst xs))
theorem Fw{x1}(h:PA X es t):PE X (.Tuple es x1 pos) (Qy t):=by
 intro pins s σ H Q I f;refine wpAny_Tuple_spliced (BW (h pos pins s σ H _ I f) λus a ⟨xs,H1,c,r,z,q⟩=>⟨by rw[<-r.length];exact z,?_⟩);have d:H1 a.heap.objs.size=none:=c.hok.fresh (Bj _);refine⟨.ref a.heap.objs.size,upd H1 a.heap.objs.size (.tup xs),c.laid (t':=a.toks) (λb u e=>Df _ e) (Bj _) ?_,U,q _ d⟩;exact⟨z,us,r,⟨_,Ej _ rfl,U,_,U⟩⟩
theorem Gv(h:PA X es t):PE X (.List es pos) (Xn t):=by
 intro pins s σ H Q I f;refine wpAny_List_spliced (BW (h pos pins s σ H _ I f) λus a ⟨xs,H1,c,r,z,q⟩=>⟨by rw[<-r.length];exact z,?_⟩);have d:H1 a.heap.objs.size=none:=c.hok.fresh (Bj _);refine⟨.ref a.heap.objs.size,upd H1 a.heap.objs.size (.lst xs),c.laid (t':=a.toks) (λb u e=>Df _ e) (Bj _) ?_,U,q _ d⟩;exact⟨z,us,0,r,Ej _ rfl⟩
end
abbrev Sp:=List V->Hp->VK->XK->Prop
abbrev Lg:=List Env->Hp->Shared->XK->Value->Shared->Prop
structure JK (P:U8) (w:W1) (K:U0) (mg:U4) (base:Heap) (A:W7) (outer:List Env) (s:U7) (H:Hp):Prop where
 frames:A.frames=some outer
 mod:Mod K mg base
 bs:∀b o,base.get? b=some o->s.heap.get? b=some o/\H b=none
 bsz:base.objs.size<=s.heap.objs.size
 funs:s.heap.FunFrames base outer
 frf:∀b∈frs outer,H b=none
 hok:FJ P w H s.heap
 bare:AllBare s.gens
def CE (outer:List Env)(P:U8)(w:W1)(H:Hp)(s:U7)(Q:VK)(u:W2)(s':U7):Prop :=
 ∃v H',s'.os=s.os/\AllBare s'.gens/\Un (frs outer) [] H H' s.heap s'.heap/\FJ P w H' s'.heap/\RelV v u/\Q v H'
def CR (CX:Lg)(outer:List Env)(P:U8)(w:W1)(H:Hp)(s:U7)(Q:VK)(E:XK)(r:Result)(s':U7):Prop :=
 match r with
 | .ok (.ret u)=>CE outer P w H s Q u s'
 | .ok _=>False
 | .error e=>CX outer H s E e s'
structure Cd (P:U8) (w:W1) (K:U0) (mg:U4) (base:Heap) (CX:Lg) (k:Nat) (f:Y0) (fd:FuncData) (ps:W0) (sp:Sp):Prop where
 len:∀vs H Q E,sp vs H Q E->vs.length=ps.length
 run:∀(A:W7) (outer:List Env) (s:U7) (H:Hp) (args:Args) (us:U5) (vs:List V) (Q:VK) (E:XK),Bl k A->JK P w K mg base A outer s H->BindsTo s fd args (ps.zip us)->Vals vs us->sp vs H Q E ->
  codeAny (model P w) A (.call (.ref f) args) (CR CX outer P w H s Q E) s
variable{mg:U4}{base:Heap}{CX:Lg}{f:Y0}{fd:FuncData}{ps:W0}
theorem Cd.mono{j:Nat}{sp:Sp}(F:Cd P w K mg base CX j f fd ps sp)(h:j<=k):
  Cd P w K mg base CX k f fd ps sp:=⟨F.len,λA outer s H args us vs Q E a=>F.run A outer s H args us vs Q E (a.mono h)⟩
variable{outer:List Env}
theorem JK.make(e:JK P w K mg base A outer s H)(C:Y0)(us:U5)(kw:List (Str×Value)):
  JK P w K mg base (A.under (.builtin "type.__call__" ⟨.ref C::us,kw⟩)) outer s H:=⟨by first | exact e.frames | (simpa [Around.under,Code.envs,Code.isFrame,pushEnvs] using e.frames),e.mod,e.bs,e.bsz,e.funs,e.frf,e.hok,e.bare⟩
section
variable {X:Cx}{pins:U1}{σ:St}{H:Hp}{s s':U7}
theorem Inv.env0(I:Inv X pins σ H s):JK X.prog X.w X.K X.mg X.base X.A X.stack s H :=
 ⟨I.ok.frames,I.ok.mod,I.bs,Cv I.ok.bsz I.sz,I.stack,I.stkFree,I.hok,I.bare⟩
theorem Inv.after{Q:VK}(I:Inv X pins σ H s)(h:CE X.stack X.prog X.w H s Q u s'):EP X pins σ Q u s':=by
 obtain⟨v,H',os,a,un,c,r,q⟩:=h;obtain⟨f,g,d,t,e⟩:=s';obtain rfl:e=s.os:=os;exact⟨v,H',I.call (h':=f) (g':=g) (d':=d) (t':=t) (ch:=[]) un c a (λb z=>absurd z (by simp)),r,q⟩
end
def JN (sp:Sp)(dvs:List V)(E:XK)(t:TA):TE:=λσ H Q=>t σ H λvs H1=>sp (vs++dvs) H1 Q E
def JM (C:Y0)(m:Str)(sp:Sp)(dvs:List V)(E:XK)(ta:TE)(t:TA):TE:=λσ H Q=>ta σ H λx H1=>∃a dx fs,x=.ref a/\H1 a=some (.ins C dx fs)/\fs.lookup m=none /\
 t σ H1 λvs H2=>sp (x::(vs++dvs)) H2 Q E
def M6 (C:Y0)(sp:Sp)(dvs:List V)(E:XK)(t:TA):TE:=λσ H Q=>t σ H λvs H1=>∀x dx,H1 x=none->H1 dx=none->dx≠x ->
 sp (.ref x::(vs++dvs)) (upd (upd H1 dx (.own x)) x (.ins C dx [])) (λv H2=>v=.non/\Q (.ref x) H2) E
def Binds (K:U0)(fd:FuncData)(ps:W0)(ds:U5):Prop :=
 ∀(s:U7) (us:U5),K.In s.heap->(us++ds).length=ps.length->BindsTo s fd ⟨us,[]⟩ (ps.zip (us++ds))
theorem Binds.all(h:∀us:List Value,us.length=ps.length->bindArgs fd ⟨us,[]⟩=pure (ps.zip us)):Binds K fd ps []:=λs us _ a=>by
 rw[Rm]at a ⊢;exact .of_eq (h us a)
def Passes (CX:Lg)(X:Cx)(E:XK):Prop:=∀(pins:U1) (σ:St) (H:Hp) (s:U7) (e:W2) (s':U7),Inv X pins σ H s->CX X.stack H s E e s'->X.xe e s'
section
variable {X:Cx}{CX:Lg}{k:Nat}{f C:Y0}{fd:FuncData}{ps:W0}{sp:Sp}{dvs:List V}{ds:U5}{E:XK}{x m:Str}{p pos apos:Pos}{e o:Expr}{es:List Expr}{ta:TE}{t:TA}
variable{vs:List V}
theorem XR{Q:VK}(F:Cd X.prog X.w X.K X.mg X.base CX k f fd ps sp)(hr:Bl k X.A)(hb:Binds X.K fd ps ds)(hd:Vals dvs ds)(hx:Passes CX X E)
  (I:Inv X pins σ H s) (r:Vals vs us) (h:sp (vs++dvs) H Q E):wpAny (model X.prog X.w) X.A (call (.ref f) us) (EP X pins σ Q) X.xe s:=by
 have b:Vals (vs++dvs) (us++ds):=r.append hd;have c:(us++ds).length=ps.length:=by rw[<-b.length];exact F.len _ _ _ _ h
 refine Ve (M9 (F.run X.A X.stack s H ⟨us,[]⟩ (us++ds) (vs++dvs) Q E hr I.env0 (hb s us I.kIn c) b h) λr s' a=>?_);cases r with
 | error e=>exact hx pins σ H s e s' I a
 | ok fl =>
  cases fl with
  | ret u=>exact I.after a
  | next=>exact False.elim a
  | brk=>exact False.elim a
  | cont=>exact False.elim a
theorem tH(F:Cd X.prog X.w X.K X.mg X.base CX k f fd ps sp)(hr:Bl k X.A)(hg:Gl X x)(hm:X.mg x=some (.ref f))(hk:PySem.W.keepIn X.K (.ref f)=true)(hb:Binds X.K fd ps ds)(hd:Vals dvs ds)(hx:Passes CX X E)
  (ha:PA X (e::es) t) (hdb:(x == ("__debug__":Str))=false:=by decide) (he:starEach (e::es) X.env=(false,eval e X.env)::starEach es X.env:=by rfl) (hpl:(backTo pos (starEach es X.env)).any (·.1)=false:=by rfl):
  PE X (.Call (.Name x p) (e::es) [] pos) (JN sp dvs E t):=by
 intro pins s σ H Q I h;refine Ru (WM I hg hm ?_ hdb);refine Vw (h₀:=X.base) I.ok.mod.kin hk (BW (ha pos pins s σ H _ I h) λus b ⟨vs,H1,a,r,q⟩=>⟨a.kIn,?_⟩) he hpl;exact XR F hr hb hd hx a r q
variable{pl:Sem Bool}
theorem X2b(he:PE X o ta)(c:Cls X.K C)(hm:Meth X.K C m f)(F:Cd X.prog X.w X.K X.mg X.base CX k f fd ps sp)(hr:Bl k X.A)(hb:Binds X.K fd ps ds)(hd:Vals dvs ds)(hx:Passes CX X E)(ha:PA X (e::es) t)
  (hst:starEach (e::es) X.env=(false,eval e X.env)::starEach es X.env:=by rfl) (hpl:(backTo pos (starEach es X.env)).any (·.1)=false:=by rfl)
  (ht:eval (.Call (.Attribute o m apos) (e::es) [] pos) X.env=(do
   let ov ← eval o X.env
   standAt apos.atName
   let (f,first) ← holding [ov] (getMethod ov m pl)
   callWith pos f first (backTo pos (starEach (e::es) X.env)) (backToKw pos (keywordEach [] X.env))):=by rfl):
  PE X (.Call (.Attribute o m apos) (e::es) [] pos) (JM C m sp dvs E ta t):=by
 intro pins s σ H Q I h;refine Yw (pl:=pl) (BW (he pins s σ H _ I h) λu i ⟨x,H1,b,j,a,dx,fs,ex,n,l,q⟩=>?_) ht;subst ex;obtain rfl:u=Value.ref a:=j;refine qP b n c hm l ?_;refine Vw (first:=[.ref a]) (h₀:=X.base) I.ok.mod.kin hm.kp (BW (ha pos pins i σ H1 _ b q) λus p ⟨vs,H2,d,r,g⟩=>⟨d.kIn,?_⟩) hst hpl;exact XR (us:=.ref a::us) (vs:=.ref a::vs) F hr hb hd hx d (.cons rfl r) g
theorem Y7m(he:PE X o ta)(c:Cls X.K C)(hm:Meth X.K C m f)(F:Cd X.prog X.w X.K X.mg X.base CX k f fd ps sp)(hr:Bl k X.A)(hb:Binds X.K fd ps ds)(hd:Vals dvs ds)(hx:Passes CX X E)
  (ht:eval (.Call (.Attribute o m apos) [] [] pos) X.env=(do
   let ov ← eval o X.env
   standAt apos.atName
   let (f,first) ← holding [ov] (getMethod ov m pl)
   callWith pos f first (backTo pos (starEach [] X.env)) (backToKw pos (keywordEach [] X.env))):=by rfl):
  PE X (.Call (.Attribute o m apos) [] [] pos) (JM C m sp dvs E ta KD):=by
 intro pins s σ H Q I h;refine Yw (pl:=pl) (BW (he pins s σ H _ I h) λu g ⟨x,H1,b,d,a,dx,fs,ex,e,l,q⟩=>?_) ht;subst ex;obtain rfl:u=Value.ref a:=d;refine qP b e c hm l ?_;exact PySem.W.callWith_K0 (first:=[.ref a]) b.kIn hm.kp (XR (us:=[.ref a]) (vs:=[.ref a]) F hr hb hd hx b (.cons rfl .nil) q)
structure Mk (K:U0) (C f:Y0):Prop where
 makes:PySem.W.makesIn K C=true
 init:PySem.W.findIn K (.ref C) "__init__"=some (some (.ref f))
 fn:PySem.W.isFn K (.ref f)=true
 kp:PySem.W.keepIn K (.ref C)=true
theorem Y7g{Q:VK}(M:Mk X.K C f)(F:Cd X.prog X.w X.K X.mg X.base CX k f fd ps sp)(hr:Bl (k+1) X.A)(hb:Binds X.K fd ps ds)(hd:Vals dvs ds)
  (hx:Passes CX X E) (I:Inv X pins σ H s) (r:Vals vs us)
  (h:∀x dx,H x=none->H dx=none->dx≠x->sp (.ref x::(vs++dvs)) (upd (upd H dx (.own x)) x (.ins C dx [])) (λv H2=>v=.non/\Q (.ref x) H2) E):
  wpAny (model X.prog X.w) X.A (call (.ref C) us) (EP X pins σ Q) X.xe s:=by
 have c:=h (s.heap.objs.size+1) s.heap.objs.size (I.hok.fresh (Vh _)) (I.hok.fresh (Bj _)) (Cw (Px _));have b:=Inv.made (C:=C) I;have d:Vals (V.ref (s.heap.objs.size+1)::(vs++dvs)) (Value.ref (s.heap.objs.size+1)::(us++ds)):=.cons rfl (r.append hd);have g:(Value.ref (s.heap.objs.size+1)::us++ds).length=ps.length:=by
  have e:=d.length;rw[F.len _ _ _ _ c]at e;exact e.symm
 refine Ve (_j (f:=f) I.kIn M.makes M.init (beq_iff_eq.mp M.fn) (M9 (F.run _ X.stack _ _ ⟨Value.ref (s.heap.objs.size+1)::us,[]⟩ (Value.ref (s.heap.objs.size+1)::(us++ds)) _ _ E (hr.make C us [])
  (b.env0.make C us []) (hb _ (Value.ref (s.heap.objs.size+1)::us) b.kIn g) d c) λr s' a=>?_))
 cases r with
 | error e=>exact hx pins σ _ _ e s' b a
 | ok fl =>
  cases fl with
  | ret u =>
   obtain⟨v,H',i,l,ev,j⟩:=b.after a;subst ev;exact⟨l,⟨V.ref (s.heap.objs.size+1),H',i,U,j⟩⟩
  | next=>exact False.elim a
  | brk=>exact False.elim a
  | cont=>exact False.elim a
theorem X2c(M:Mk X.K C f)(F:Cd X.prog X.w X.K X.mg X.base CX k f fd ps sp)(hr:Bl (k+1) X.A)(hg:Gl X x)(hm:X.mg x=some (.ref C))(hb:Binds X.K fd ps ds)(hd:Vals dvs ds)(hx:Passes CX X E)
  (ha:PA X (e::es) t) (hdb:(x == ("__debug__":Str))=false:=by decide) (he:starEach (e::es) X.env=(false,eval e X.env)::starEach es X.env:=by rfl) (hpl:(backTo pos (starEach es X.env)).any (·.1)=false:=by rfl):
  PE X (.Call (.Name x p) (e::es) [] pos) (M6 C sp dvs E t):=by
 intro pins s σ H Q I h;refine Ru (WM I hg hm ?_ hdb);refine Vw (h₀:=X.base) I.ok.mod.kin M.kp (BW (ha pos pins s σ H _ I h) λus b ⟨vs,H1,a,r,q⟩=>⟨a.kIn,?_⟩) he hpl;exact Y7g M F hr hb hd hx a r q
end
def PK (X:Cx)(kws:List Keyword)(t:TA):Prop :=
 ∀(pos:Pos) (pins:U1) (s:U7) (σ:St) (H:Hp) (Q:List V->Hp->Prop),Inv X pins σ H s->t σ H Q->wpAny (model X.prog X.w) X.A (evalAll ((backToKw pos (keywordEach kws X.env)).map (·.2))) (AP X pins σ Q) X.xe s
section
variable {X:Cx}{CX:Lg}{k:Nat}{f C:Y0}{fd:FuncData}{ps ks:W0}{sp:Sp}{E:XK}{x m:Str}{p pos apos kpos:Pos}{e o:Expr}{es:List Expr}{kws:List Keyword}{te ta:TE}{t tk:TA}{nm:Option Str}
theorem X5u:PK X [] KD:=λ_ _ _ _ H Q I h=>wpAny_evalAll_nil ⟨[],H,I,.nil,h⟩
theorem X1z(ha:PE X e te)(hr:PK X kws t):PK X (⟨nm,e,kpos⟩::kws) (G_ te t):=by
 intro pos pins s σ H Q I h;show wpAny _ _ (evalAll ((do let v ← eval e X.env;standAt pos;pure v)::(backToKw pos (keywordEach kws X.env)).map (·.2))) _ _ s;refine wpAny_evalAll_cons (Bm (BW (ha pins s σ H _ I h) λu f ⟨x,H1,a,g,d⟩=>Bm (Pk (CW ?_))));exact BW (hr pos pins f σ H1 _ a d) λus j ⟨xs,H2,i,c,b⟩=>⟨x::xs,H2,i,.cons g c,b⟩
variable {g:List Value->List Value->List Value}{gV:List V->List V->List V}
end
structure Ar (N P:W0) (sc:Scope):Prop where
 kind:sc.kind=.function
 co:sc.isCoroutine=false
 gen:sc.isGenerator=false
 nd:N.Nodup
 pre:N.take P.length=P
 par:∀x∈P,sc.names.lookup x=some .local\/sc.names.lookup x=some .cell
 nofree:∀y∈sc.names,y.2≠.free
theorem qD{kindOf:Str->Option NameKind}{x:Str}:∀{binds:List (Str×Value)}{m:U4},(∀v,(x,v)∉binds)->bindL kindOf binds m x=m x
 | [],_,_=>rfl
 | (n,v)::r,m,h=>by
  unfold bindL;rw[qD λw a=>h w (Hx _ a)];split
  ·have:x≠n:=by rintro rfl;exact h v Rt
   simp[this]
  ·rfl
theorem p8{kindOf:Str->Option NameKind}{x:Str}:∀{binds:List (Str×Value)}{m:U4},(∀v,(x,v)∉binds)->bindC kindOf binds m x=m x
 | [],_,_=>rfl
 | (n,v)::r,m,h=>by
  unfold bindC;rw[p8 λw a=>h w (Hx _ a)];split
  ·rfl
  ·have:x≠n:=by rintro rfl;exact h v Rt
   simp[this]
theorem qC{kindOf:Str->Option NameKind}{x:Str}{v:W2}:∀{P:W0}{vs:U5}{i:Nat}{m:U4},P.Nodup->P[i]?=some x->vs[i]?=some v->kindOf x=some .local ->
  bindL kindOf (P.zip vs) m x=some v
 | [],_,_,_,_,h,_,_=>by simp at h
 | _::_,[],_,_,_,_,h,_=>by simp at h
 | p::P,w::vs,0,m,nd,h1,h2,hk=>by
  simp at h1 h2;subst h1;subst h2;show bindL kindOf ((p,w)::P.zip vs) m p=_;unfold bindL;rw[qD λv a=>(Vq.mp nd).1 (YW a).1,if_pos hk];simp
 | p::P,w::vs,i+1,m,nd,h1,h2,hk=>by
  show bindL kindOf ((p,w)::P.zip vs) m x=_;unfold bindL;exact qC (i:=i) (Vq.mp nd).2 (by simpa using h1) (by simpa using h2) hk
theorem p7{kindOf:Str->Option NameKind}{x:Str}{v:W2}:∀{P:W0}{vs:U5}{i:Nat}{m:U4},P.Nodup->P[i]?=some x->vs[i]?=some v->kindOf x≠some .local ->
  bindC kindOf (P.zip vs) m x=some v
 | [],_,_,_,_,h,_,_=>by simp at h
 | _::_,[],_,_,_,_,h,_=>by simp at h
 | p::P,w::vs,0,m,nd,h1,h2,hk=>by
  simp at h1 h2;subst h1;subst h2;show bindC kindOf ((p,w)::P.zip vs) m p=_;unfold bindC;rw[p8 λv a=>(Vq.mp nd).1 (YW a).1,if_neg hk];simp
 | p::P,w::vs,i+1,m,nd,h1,h2,hk=>by
  show bindC kindOf ((p,w)::P.zip vs) m x=_;unfold bindC;exact p7 (i:=i) (Vq.mp nd).2 (by simpa using h1) (by simpa using h2) hk
noncomputable def start (N:W0)(vs:List V):St:=vs.map some++List.replicate (N.length-vs.length) none
noncomputable def Fi (CX:Lg)(P:U8)(w:W1)(K:U0)(mg:U4)(base:Heap)(N:W0)(qual:Str)(scope:Scope)(f:Y0)(cd:W2)(A:W7)(outer:List Env)(s:U7)(H:Hp)(E:XK):Cx where
 prog:=P
 w:=w
 K:=K
 mg:=mg
 base:=base
 A:=A.deeper (envOfC qual scope s.heap.objs.size f cd)
 N:=N
 s₀:=s
 H₀:=H
 env:=envOfC qual scope s.heap.objs.size f cd
 outer:=outer
 stack:=envOfC qual scope s.heap.objs.size f cd::outer
 ex:=[]
 calm:=true
 fn:=λ_=>true
 pn:=[]
 xe:=λe s'=>wpAny (model P w) (A.deeper (envOfC qual scope s.heap.objs.size f cd)) (leaving (envOfC qual scope s.heap.objs.size f cd) e) (λ_ s''=>CX outer H s E e s'') (λe' s''=>CX outer H s E e' s'') s'
theorem uR{sc:Scope}{n:Nat}{x:Str}(h:sc.names.lookup x=some .cell):∃c,(cellsFrom n sc.names []).lookup x=some c:=by
 have q:=o7 sc.names n [] (.inl h);exact Option.isSome_iff_exists.mp q
variable{qual:Str}{scope:Scope}
theorem Y5p{N:W0}{cd:W2}{s1:U7}{E:XK}{vs:List V}
  (S:Ar N ps scope) (hd:A.handled=none) (e0:JK P w K mg base A outer s H) (hl:vs.length=ps.length) (r:Vals vs us)
  (x:InCallC s s.heap.objs.size (bindL (envOfC qual scope s.heap.objs.size f cd).kindOf (ps.zip us) λ_=>none) (cellsFrom (s.heap.objs.size+1) scope.names []) (bindC (envOfC qual scope s.heap.objs.size f cd).kindOf (ps.zip us) λ_=>none) s1):
  Inv (Fi CX P w K mg base N qual scope f cd A outer s H E) [] (start N vs) H s1:=by
 have t:ps.length<=N.length:=by have:=congrArg List.length S.pre;rw[Oe]at this;omega
 obtain⟨h1,tk,rfl,l⟩:=x.done;have d:∀b:Addr,b∉(Fi CX P w K mg base N qual scope f cd A outer s H E).ex:=λb z=>absurd (show b∈([]:U3) from z) (by simp)
 refine⟨⟨e0.mod,S.kind,U,U,Bj _,λy z c h1 h2=>?_,λy g=>?_,λy c _ h=>?_,λ_=>hd,Around.frames_deeper e0.frames,.inr ⟨U,U⟩,λb z=>absurd z (d b),e0.bs,e0.bsz,λb _ _=>d b,λb z=>absurd z (d b),e0.funs,e0.frf⟩,
  rfl,e0.bare,Un.kept l,⟨_,x.toInCall.ns,λi y v h1 h2 C=>?_⟩,λy c h=>⟨_,x.cell y c h⟩,e0.hok.fresh (Bj _),λy c h=>?_,λp hp=>absurd (show p∈([]:U1) from hp) (by simp),e0.hok.kept l,?_⟩
 ·exact name_of_addr x.apart (Oh h1) (Oh h2)
 ·have g:scope.names.lookup y=some .cell\/scope.names.lookup y=some .free:=g;rcases g with g | g
  ·exact uR g
  ·exact absurd rfl (S.nofree _ (Oh g))
 ·exact YF (x.above y c (Oh h))
 ·have hi:i<vs.length:=by
   unfold start at h2;by_cases hi:i<vs.length
   ·exact hi
   ·rw[pF (by simpa using hi)]at h2;rw[List.getElem?_replicate]at h2;split at h2<;>cases h2
  have o:vs[i]?=some v:=by
   unfold start at h2;rw[Y9 (by simpa using hi),Dw]at h2;cases e:vs[i]? with
   | none=>rw[e]at h2;cases h2
   | some a=>rw[e]at h2;cases h2;rfl
  obtain⟨u,m,B⟩:=r.get o;have hp:ps[i]?=some y:=by
   rw[<-S.pre,List.getElem?_take_of_lt (by omega)];exact h1
  have j:ps.Nodup:=by rw[<-S.pre];exact S.nd.sublist (List.take_sublist _ _)
  refine⟨u,B,?_⟩;rcases S.par y (Il hp) with k | k
  ·exact .inl ⟨k,qC j hp m k⟩
  ·obtain⟨c,e⟩:=uR (n:=s.heap.objs.size+1) k;refine .inr ⟨.inl k,c,e,?_⟩;have q:=x.cell y c e;rw[p7 j hp m (by show scope.names.lookup y≠_;rw[k];decide)]at q;exact q
 ·exact e0.hok.fresh (YF (x.above y c (Oh h)))
 ·unfold start;show _=N.length;rw[G3,BJ,List.length_replicate];omega
theorem Wu{name:Str}{params:Arguments}{body:W9}{dV kV doc pm cdv ct oc:W2}{an od:W5}
  {osl:W4}{N:W0}{sp:Sp} (lk:K.lookup f=some ⟨oc,od,.func (PySem.W.fnOf name qual params body scope dV kV doc pm an cdv ct),osl⟩) (hcd:PySem.W.codeIn K cdv qual=true) (S:Ar N ps scope)
  (len:∀vs H Q E,sp vs H Q E->vs.length=ps.length)
  (hbody:∀(A:W7) (outer:List Env) (s:U7) (H:Hp) (vs:List V) (Q:VK) (E:XK),Bl k (A.deeper (envOfC qual scope s.heap.objs.size f cdv))->sp vs H Q E ->
   ∃t,GF (Fi CX P w K mg base N qual scope f cdv A outer s H E) body t/\t { nx:=λ_ H'=>Q .non H',rt:=Q} (start N vs) H):
  Cd P w K mg base CX (k+1) f (PySem.W.fnOf name qual params body scope dV kV doc pm an cdv ct) ps sp:=by
 refine⟨len,λA outer s H args us vs Q E j d hb r h=>?_⟩;have F:=len _ _ _ _ h;have p:K.In s.heap:=d.mod.kin.keeps λb o e=>(d.bs b o e).1;have l:s.heap.NoLimit:=d.mod.nolimit.keeps λb o e=>(d.bs b o e).1;have a:∀y∈ps.zip us,scope.names.lookup y.1=some .local\/(scope.names.lookup y.1=some .cell/\((cellsFrom (s.heap.objs.size+1) scope.names []).lookup y.1).isSome=true):=λ⟨n,v⟩ D=>by
  rcases S.par n (YW D).1 with q | q
  ·exact .inl q
  ·exact .inr ⟨q,o7 _ _ _ (.inl q)⟩
 refine codeAny_call_function j.depth (p _ _ lk) rfl S.co S.gen rfl (PySem.W.codeRec_of p hcd) (hb _ _ _ _ ?_);refine wpAny_newFunctionEnv_cells S.kind a λenv B s1 x=>?_;subst B;refine⟨l.keeps x.toInCall.keep,codeAny_func ?_⟩;obtain⟨t,z,C⟩:=hbody A outer s H vs Q E (j.deeper _) h;have I:Inv (Fi CX P w K mg base N qual scope f cdv A outer s H E) [] (start N vs) H s1:=Y5p S j.hd d F r x;refine Ep (z [] s1 (start N vs) H _ I C) (λG s' c=>?_) λe s' c=>c;have g:∀{i:St}{H':Hp}{v:V}{u:W2},Inv (Fi CX P w K mg base N qual scope f cdv A outer s H E) [] i H' s'->RelV v u->Q v H'->CE outer P w H s Q u s' :=
  λ{i H' v u} J m q=>⟨v,H',J.os,J.bare,J.base,J.hok,m,q⟩
 cases G with
 | ret u =>
  obtain⟨v,i,H',J,m,q⟩:=c;exact g J m q
 | next =>
  obtain⟨i,H',J,q⟩:=c;exact g (v:=V.non) (u:=Value.none) J rfl q
 | brk =>
  obtain⟨_,_,_,q⟩:=c;exact False.elim q
 | cont =>
  obtain⟨_,_,_,q⟩:=c;exact False.elim q
section
variable {X:Cx}{x:Str}{p pos:Pos}{e:Expr}{es:List Expr}{t:TA}{id T:String}{r:List V->Hp->VK->Prop}
def oK (r:List V->Hp->VK->Prop)(t:TA):TE:=λσ H Q=>t σ H λvs H1=>r vs H1 Q
theorem Cm(hc:CJ X (.builtin id) r)(hg:Gl X x)(hm:X.mg x=none)(hv:bootBuiltins x=some (.builtin id))(ha:PA X (e::es) t)(hn:x≠"__name__":=by decide)(hdb:(x == ("__debug__":Str))=false:=by decide)
  (he:starEach (e::es) X.env=(false,eval e X.env)::starEach es X.env:=by rfl) (hpl:(backTo pos (starEach es X.env)).any (·.1)=false:=by rfl):PE X (.Call (.Name x p) (e::es) [] pos) (oK r t):=by
 intro pins s σ H Q I h;refine Ru (Mi I hg hm hv ?_ hn hdb);exact PyProof.Rows.callWith_builtin1 (BW (ha pos pins s σ H _ I h) λus b ⟨vs,H1,c,d,a⟩=>hc pins b σ H1 vs us Q c d a) he hpl
theorem IV(hc:CJ X (.type T) r)(hg:Gl X x)(hm:X.mg x=none)(hv:bootBuiltins x=some (.type T))(ha:PA X (e::es) t)(hn:x≠"__name__":=by decide)(hdb:(x == ("__debug__":Str))=false:=by decide)
  (he:starEach (e::es) X.env=(false,eval e X.env)::starEach es X.env:=by rfl) (hpl:(backTo pos (starEach es X.env)).any (·.1)=false:=by rfl):PE X (.Call (.Name x p) (e::es) [] pos) (oK r t):=by
 intro pins s σ H Q I h;refine Ru (Mi I hg hm hv ?_ hn hdb);exact PyProof.Rows.callWith_type1 (BW (ha pos pins s σ H _ I h) λus b ⟨vs,H1,c,d,a⟩=>hc pins b σ H1 vs us Q c d a) he hpl
end
end L2
namespace HT
section
open PySem.SeqAt
open PySem.AutoSeq1 (wpAny_loadPart')
open PySem.MeetsSeq PySem.MeetsSeq2 PySem.MeetsSeq3
end
section
variable {prog:U8}{w:W1}{A:W7}{E:U2}{s:U7}
theorem X4e{t b:Y0}{vs ws:U5}{Q:U2}(ht:IsTup s.heap t vs.toArray)(hb:IsTup s.heap b ws.toArray)(hv:vs≠[])
  (h1:ws=[]->Q (.ref t) s) (h2:ws≠[]->Q (.ref s.heap.objs.size) {s with heap:=s.heap.push { cls:=.type "tuple",data:=.seq (vs++ws).toArray}})
  (hsz:vs.length+ws.length<=sizeLine):wpAny (model prog w) A (binaryOp .Add (.ref t) (.ref b)) Q E s:=by
 obtain⟨⟨cls,dd,data,m⟩,h,o,n,l⟩:=id ht;obtain⟨⟨k,g,i,d⟩,a,c,j,f⟩:=id hb;simp only at o l c f;subst o l c f;have e:vs.toArray++ws.toArray=(vs++ws).toArray:=by simp
 by_cases hw:ws=[]
 ·exact YG ⟨_,h,U⟩ ⟨_,a,U⟩ Ye YL Yz Y5 (Y8 _ _)
   (tuple_addW1 t b vs.toArray ws.toArray n j dd g m d (by simpa using hv) (by simp[hw])) ⟨h,a,h1 hw⟩
 ·refine YG ⟨_,h,U⟩ ⟨_,a,U⟩ Ye YL Yz Y5 (Y8 _ _)
   (tuple_addW2 t b vs.toArray ws.toArray n j dd g m d (by simpa using hv) (by simpa using hw) (by rw[Eb,Eb];exact hsz)) ⟨h,a,?_⟩
  rw[e];exact h2 hw
noncomputable def Bp (n d:Nat):Option Int->Nat
 | none=>d
 | some v=>if v<0 then (v+(n:Int)).toNat else min v.toNat n
theorem Um(n d k:Nat):Bp n d (some (k:Int))=min k n:=by
 show (if (k:Int)<0 then ((k:Int)+(n:Int)).toNat else min (k:Int).toNat n)=min k n;rw[if_neg (by omega),J2]
theorem X5p(n d:Nat)(hd:d<=n)(o:Option Int):Bp n d o<=n:=by
 cases o with
 | none=>exact hd
 | some v =>
  show (if v<0 then (v+(n:Int)).toNat else min v.toNat n)<=n;by_cases hv:v<0
  ·rw[if_pos hv];omega
  ·rw[if_neg hv];exact Nat.min_le_right _ _
theorem rN(v:Int)(n d:Nat):(if v<0 then max (v+(n:Int)) 0 else min v (n:Int))=((Bp n d (some v):Nat):Int):=by
 show (if v<0 then max (v+(n:Int)) 0 else min v (n:Int))=(((if v<0 then (v+(n:Int)).toNat else min v.toNat n):Nat):Int);by_cases hv:v<0
 ·simp only[if_pos hv];omega
 ·simp only[if_neg hv];omega
theorem Y2o(lo hi:Option Int)(n:Nat):Builtin.Slice.sliceAdjust lo hi 1 (n:Int)=(((Bp n 0 lo:Nat):Int),((Bp n n hi:Nat):Int)):=by
 have h1:¬ ((1:Int)<0):=by omega
 unfold Builtin.Slice.sliceAdjust;simp only[h1,Pg];refine Prod.ext ?_ ?_
 ·cases lo with
  | none=>rfl
  | some v=>exact rN v n 0
 ·cases hi with
  | none=>rfl
  | some v=>exact rN v n n
theorem Y1z(i j:Nat):Builtin.Slice.slicePlaces (i:Int) (j:Int) 1=j-i:=by
 unfold Builtin.Slice.slicePlaces;have h1:(1:Int)>0:=by omega
 simp only[h1,N_,Int.ediv_one];split<;>omega
theorem qW{v:W2}{o:Option Int}{Q:Option Int->Shared->Prop}(p:IsPart v o)(h:Q o s):wpAny (model prog w) A (Builtin.Slice.slicePartIndex v) Q E s:=by
 cases p with
 | none=>exact slicePart_none h
 | int i t=>exact slicePart_int h
variable{lo hi:Option Int}
theorem qy{sl:Y0}{vl vu:W2}{n:Nat}{Q:Int×Int×Nat->Shared->Prop}(hs:s.heap.IsSliceOf sl vl vu .none)(pl:IsPart vl lo)(pu:IsPart vu hi)
  (h:Q (((Bp n 0 lo:Nat):Int),1,Bp n n hi-Bp n 0 lo) s):wpAny (model prog w) A (Builtin.Slice.sliceApplied (.ref sl) (pure (n:Int))) Q E s:=by
 obtain⟨os,a,c,b⟩:=id hs;unfold Builtin.Slice.sliceApplied Builtin.Slice.sliceFields;refine Bm (Bm (Lp a b (x:=vl) rfl (Bm (Lp a b (x:=vu) rfl (Bm (Lp a b (x:=.none) rfl (CW ?_)))))));refine Bm (slicePart_none ?_);show wpAny _ _ (if ((1:Int) == 0)=true then _ else _) _ _ s;rw[if_neg (by decide)];refine Bm (qW pl (Bm (qW pu (Bm (CW ?_)))));show wpAny _ _ (match Builtin.Slice.sliceAdjust lo hi 1 (n:Int) with | (lo,hi)=>pure (lo,(1:Int),Builtin.Slice.slicePlaces lo hi 1)) _ _ s;rw[Y2o lo hi n];show wpAny _ _ (pure (((Bp n 0 lo:Nat):Int),(1:Int),Builtin.Slice.slicePlaces ((Bp n 0 lo:Nat):Int) ((Bp n n hi:Nat):Int) 1)) _ _ s;rw[Y1z];exact CW h
theorem Y7i(xs:U9)(i k:Nat):((List.range k).filterMap λ(m:Nat)=>xs[((i:Int)+(m:Int)*1).toNat]?).toArray=((xs.toList.drop i).take k).toArray:=by
 have e:(λ(m:Nat)=>xs[((i:Int)+(m:Int)*1).toNat]?)=λm=>xs[i+m]?:=by
  funext m;have:((i:Int)+(m:Int)*1).toNat=i+m:=by omega
  rw[this]
 rw[e];have:=pick_run xs i k;rw[List.filterMap_map]at this;have a:((λx=>xs[x]?) ∘ λx=>i+x)=λm=>xs[i+m]?:=rfl;rw[a]at this;rw[this]
theorem za{t sl:Y0}{items:U9}{vl vu:W2}{Q:U2}(ht:IsTup s.heap t items)(hs:s.heap.IsSliceOf sl vl vu .none)(pl:IsPart vl lo)(pu:IsPart vu hi)
  (hw:¬ (Bp items.size 0 lo=0/\Bp items.size items.size hi=items.size))
  (h:Q (.ref s.heap.objs.size) {s with heap:=s.heap.push { cls:=.type "tuple",data:=.seq ((items.toList.drop (Bp items.size 0 lo)).take (Bp items.size items.size hi-Bp items.size 0 lo)).toArray}})
  (hsz:items.size<=sizeLine):wpAny (model prog w) A (getItem (.ref t) (.ref sl)) Q E s:=by
 have a:sizeOk (.seq ((items.toList.drop (Bp items.size 0 lo)).take (Bp items.size items.size hi-Bp items.size 0 lo)).toArray):=by
  show ((items.toList.drop (Bp items.size 0 lo)).take (Bp items.size items.size hi-Bp items.size 0 lo)).toArray.size<=sizeLine;rw[Eb,Oe,Yb,Vx];omega
 have g:Bp items.size items.size hi<=items.size:=X5p _ _ (Bj _) hi;obtain⟨os,b,c,f⟩:=id hs;have d:s.TypeIs (.ref sl) "slice":=⟨os,b,c⟩;unfold getItem;try with_reducible refine Vm ?_
 first | refine Bm (CW ?_) | skip
 refine Bm (wpAny_sequenceKey ht.typeIs (by decide) ?_)
 refine Bm (Y6 (name:=Str.ofString "__getitem__") ht.typeIs PyProof.Rows.slot_tuple_getitem
  (Yg PyProof.Rows.slot_tuple_getitem ht.typeIs entry_tuple_getitem ?_ (args_tuple_getitem _ _)))
 show wpAny _ _ (Builtin.Tuple.tupleItemsOf (.ref t) >>= _) _ _ s;refine Bm (tupleItemsOf_ ht ?_);refine Bm (YH d ?_);rw[if_pos (by decide)];refine Bm (qy hs pl pu ?_);have e:¬ ((((Bp items.size 0 lo:Nat):Int) == 0 && (1:Int) == 1 && (Bp items.size items.size hi-Bp items.size 0 lo) == items.size)=true):=by
  intro q;rw[Gk,Gk]at q;have i:((Bp items.size 0 lo:Nat):Int)=0:=eq_of_beq q.1.1;have j:Bp items.size items.size hi-Bp items.size 0 lo=items.size:=eq_of_beq q.2;exact hw ⟨by omega,by omega⟩
 show wpAny _ _ (if (((Bp items.size 0 lo:Nat):Int) == 0 && (1:Int) == 1 && (Bp items.size items.size hi-Bp items.size 0 lo) == items.size)=true then _ else _) _ _ s;rw[if_neg e,Y7i];first
  | exact Bm (m:=Builtin.Tuple.tupleExact _) (P0 (CW ⟨_,rfl,CW h⟩) a)
  | exact Bm (m:=Builtin.Tuple.tupleExact _) (P0 (Bm (CW (CW ⟨_,rfl,CW h⟩))) a)
  | exact Bm (Bm (m:=Builtin.Tuple.tupleExact _) (P0 (CW (CW ⟨_,rfl,CW h⟩)) a))
  | exact Bm (Bm (m:=Builtin.Tuple.tupleExact _) (P0 (CW ⟨_,rfl,CW h⟩) a))
end
end HT
namespace L2
abbrev TO:=St->Hp->(Option Int->Hp->Prop)->Prop
def PO (X:Cx)(e:Option Expr)(t:TO):Prop :=
 ∀(pins:U1) (s:U7) (σ:St) (H:Hp) (Q:Option Int->Hp->Prop),Inv X pins σ H s->t σ H Q ->
  wpAny (model X.prog X.w) X.A (evalPart e X.env) (λu s'=>∃o H',Inv X pins σ H' s'/\IsPart u o/\Q o H') X.xe s
def X1n:TO:=λ_ H Q=>Q none H
def Q7 (t:TE):TO:=λσ H Q=>t σ H λx H1=>∃i,x=.int i/\Q (some i) H1
theorem Qg{ns:U6}:∀{us:U5},Vals (ns.map V.int) us->IntsAre us ns:=by
 induction ns with
 | nil=>intro us r;rw[YC]at r;cases r;exact .nil
 | cons n ns ih =>
  intro us r;rw[Ls]at r;cases r with
  | cons r1 r2 =>
   obtain⟨t,e⟩:=r1;subst e;exact .cons n t (ih r2)
section
variable {X:Cx}{e:Expr}{te:TE}{lo hi:Option Expr}{tl th:TO}{pos p2:Pos}
theorem Le:PO X none X1n:=by
 intro pins s σ H Q I h;rw[evalPart_none];exact CW ⟨none,H,I,.none,h⟩
theorem Jk(h:PE X e te):PO X (some e) (Q7 te):=by
 intro pins s σ H Q I b;rw[evalPart_some];refine BW (h pins s σ H _ I b) λu f ⟨x,H1,c,d,a⟩=>?_;obtain⟨i,rfl,q⟩:=a;obtain⟨t,rfl⟩:=d;exact⟨some i,H1,c,.int i t,q⟩
def VJ (X:Cx)(r:V->Option Int->Option Int->Hp->VK->Prop):Prop :=
 ∀(pins:U1) (s:U7) (σ:St) (H:Hp) (x:V) (v vl vu:W2) (lo hi:Option Int) (sl:Y0) (Q:VK),Inv X pins σ H s->RelV x v->s.heap.IsSliceOf sl vl vu .none->IsPart vl lo->IsPart vu hi->r x lo hi H Q ->
  ∃T id,typeLookup (.type T) "__getitem__"=pure (some (.builtin id))/\s.TypeIs v T/\wpAny (model X.prog X.w) X.A (getItem v (.ref sl)) (EP X pins σ Q) X.xe s
def xu (r:V->Option Int->Option Int->Hp->VK->Prop)(te:TE)(tl th:TO):TE:=λσ H Q=>te σ H λx H1=>tl σ H1 λl H2=>th σ H2 λu H3=>r x l u H3 Q
theorem J5{r:V->Option Int->Option Int->Hp->VK->Prop}(hr:VJ X r)(he:PE X e te)(hl:PO X lo tl)(hu:PO X hi th):PE X (.Subscript e (.Slice lo hi none p2) pos) (xu r te tl th):=by
 intro pins s σ H Q I h;refine Subscript_ (BW (he pins s σ H _ I h) λv p ⟨x,H1,i,t,o⟩=>?_);refine wpAny_Slice (BW (hl pins p σ H1 _ i o) λc y ⟨l,H2,C,pl,m⟩=>BW (hu pins y σ H2 _ C m) λd a ⟨u,f,j,z,n⟩=>?_);rw[evalPart_none];refine CW ?_;have D:Inv X pins σ f {a with heap:=a.heap.push { cls:=.type "slice",data:=.fields #[c,d,.none]}}:=j.kept (t':=a.toks) λb E q=>Df _ q;obtain⟨T,id,B,g,k⟩:=hr pins {a with heap:=a.heap.push { cls:=.type "slice",data:=.fields #[c,d,.none]}} σ f x v c d l u a.heap.objs.size Q D t (Heap.IsSliceOf.new ..) pl z n;show wpAny (model X.prog X.w) X.A (subscriptTail e (.Slice lo hi none p2) v (.ref a.heap.objs.size)) (EP X pins σ Q) X.xe {a with heap:=a.heap.push { cls:=.type "slice",data:=.fields #[c,d,.none]}};exact tail_any (ops:=[.ref a.heap.objs.size,v]) g B k (by with_unfolding_all rfl)
noncomputable def Du (xs:List V)(lo hi:Option Int):List V:=(xs.drop (HT.Bp xs.length 0 lo)).take (HT.Bp xs.length xs.length hi-HT.Bp xs.length 0 lo)
theorem qZ(xs:List V)(lo hi:Option Int):(Du xs lo hi).length<=xs.length:=by
 unfold Du;rw[Oe,Yb];omega
def Xz (K:U0):V->Option Int->Option Int->Hp->VK->Prop:=λx lo hi H Q=>∃a xs,x=.ref a/\Ah K H a xs /\
 ¬ (HT.Bp xs.length 0 lo=0/\HT.Bp xs.length xs.length hi=xs.length)/\∀p,H p=none->Q (.ref p) (upd H p (.tup (Du xs lo hi)))
theorem Ug:VJ X (Xz X.K):=by
 intro pins s σ H x v l m lo hi p Q I g j pl k h;obtain⟨a,xs,rfl,i,f,q⟩:=h;cases g;obtain⟨its,r,d,e⟩:=I.tuple i;have c:its.toArray.size=xs.length:=by rw[Eb];exact r.length.symm
 refine⟨"tuple",_,PyProof.Rows.slot_tuple_getitem.lookup,d.typeIs,?_⟩;refine HT.za d j pl k (by rw[c];exact f) ?_ (by rw[c];exact e);rw[c];refine⟨.ref s.heap.objs.size,_,I.laid (t':=s.toks) (o:=.tup (Du xs lo hi)) (λb n q=>Df _ q) (Bj _) ?_,U,q _ (I.hok.fresh (Bj _))⟩;exact⟨Cv (qZ xs lo hi) e,_,(r.drop (HT.Bp xs.length 0 lo)).take (HT.Bp xs.length xs.length hi-HT.Bp xs.length 0 lo),IsTup.new _ _⟩
def RV (K:U0):R2:=λx y H Q=>∃a b xs ys,x=.ref a/\y=.ref b/\Ah K H a xs/\Ah K H b ys/\xs≠[]/\xs.length+ys.length<=sizeLine /\
 (ys=[]->Q (.ref a) H)/\(ys≠[]->∀p,H p=none->Q (.ref p) (upd H p (.tup (xs++ys))))
theorem Vals.nil_iff{xs:List V}{us:U5}(r:Vals xs us):us=[]↔xs=[]:=by
 cases r with
 | nil=>simp
 | cons _ _=>simp
theorem X2l:C_ X (binaryOp .Add) (RV X.K):=by
 intro pins s σ H x y v u Q I m l h;obtain⟨a,b,xs,ys,rfl,rfl,j,hb,n,e,k,g⟩:=h;cases m;cases l;obtain⟨its,d,i,_⟩:=I.tuple j;obtain⟨f,c,p2,_⟩:=I.tuple hb;refine HT.X4e i p2 (λz=>n (d.nil_iff.mp z)) (λz=>⟨.ref a,H,I,U,k (c.nil_iff.mp z)⟩) (λz=>?_) (by rw[<-d.length,<-c.length];exact e);refine⟨.ref s.heap.objs.size,_,I.laid (t':=s.toks) (o:=.tup (xs++ys)) (λb p q=>Df _ q) (Bj _) ?_,U,g (λw=>z (c.nil_iff.mpr w)) _ (I.hok.fresh (Bj _))⟩;exact⟨by rw[G3];exact e,_,d.append c,IsTup.new _ _⟩
end
noncomputable def Om (n:Nat)(i:Int):Option Nat:=if 0<=i then (if i<n then some i.toNat else none) else if -(n:Int)<=i then some (i+n).toNat else none
noncomputable def Ez {α:Type}(xs:List α)(i:Int):Option α:=(Om xs.length i).bind λj=>xs[j]?
variable{n j:Nat}{i:Int}
theorem X3x(h:Om n i=some j):seqIndex? i n=some j/\j<n/\-(n:Int)<=i/\i<n:=by
 unfold Om at h;by_cases h0:0<=i
 ·rw[if_pos h0]at h;by_cases h1:i<n
  ·rw[if_pos h1]at h;have e:i.toNat=j:=Option.some.inj h;exact⟨by rw[seqIndex_of h0 h1,e],by omega,by omega,h1⟩
  ·rw[if_neg h1]at h;cases h
 ·rw[if_neg h0]at h;by_cases h1:-(n:Int)<=i
  ·rw[if_pos h1]at h;have e:(i+n).toNat=j:=Option.some.inj h;exact⟨by rw[seqIndex_neg (by omega) h1,e],by omega,h1,by omega⟩
  ·rw[if_neg h1]at h;cases h
theorem mX{α:Type}{xs:List α}{v:α}(h:Ez xs i=some v):∃j,seqIndex? i xs.length=some j/\xs[j]?=some v/\j<xs.length/\-(xs.length:Int)<=i/\i<xs.length:=by
 unfold Ez at h;cases e:Om xs.length i with
 | none=>rw[e]at h;cases h
 | some j =>
  rw[e]at h;obtain⟨h1,h2,b,a⟩:=X3x e;exact⟨j,h1,h,h2,b,a⟩
theorem O_{α:Type}{xs:List α}{v:α}(h:xs[j]?=some v):Ez xs (j:Int)=some v:=by
 have a:j<xs.length:=(Fb.mp h).1;have e:Om xs.length (j:Int)=some j:=by
  unfold Om;rw[if_pos (by omega),if_pos (by omega)];simp
 unfold Ez;rw[e];exact h
def X4j (b:Expr):Prop:=∀o i,subscripted b false o i=operate [o,i] (getItem o i)
def Qn (X:Cx)(r:R2):Prop :=
 ∀(value slice:Expr) (pins:U1) (s:U7) (σ:St) (H:Hp) (x y:V) (v u:W2) (Q:VK),Inv X pins σ H s->RelV x v->RelV y u->r x y H Q ->
  subscripted slice false v u=operate [v,u] (getItem v u)->wpAny (model X.prog X.w) X.A (subscriptTail value slice v u) (EP X pins σ Q) X.xe s
def Nz (X:Cx)(id:String)(r:V->List V->Hp->VK->Prop):Prop :=
 ∀(pins:U1) (s:U7) (σ:St) (H:Hp) (x:V) (xs:List V) (v:W2) (us:U5) (Q:VK),Inv X pins σ H s->RelV x v->Vals xs us->r x xs H Q ->
  wpAny (model X.prog X.w) X.A (call (.builtin id) (v::us)) (EP X pins σ Q) X.xe s
section
variable {X:Cx}{a b:Expr}{ta tb:TE}{pos:Pos}
theorem Al{r:R2}(hr:Qn X r)(ha:PE X a ta)(hb:PE X b tb)(hs:X4j b):PE X (.Subscript a b pos) (M5 r ta tb):=by
 intro pins s σ H Q I h;exact Subscript_ (O1 ha hb I h λv u e x y H2 f c d q=>hr a b pins e σ H2 x y v u Q f c d q (hs _ _))
def RP (K:U0):R2:=λx y H Q=>∃p xs i v,x=.ref p/\y=.int i/\Af K H p xs/\Ez xs i=some v/\Q v H
def RN (K:U0):R2:=λx y H Q=>∃p xs i v,x=.ref p/\y=.int i/\Ah K H p xs/\Ez xs i=some v/\Q v H
def X8:R2:=λx y H Q=>∃z i c,x=.str z/\y=.int i/\z.length<=sizeLine/\Ez z.cps.toList i=some c/\Q (.str ⟨#[c]⟩) H
theorem DK:Qn X (RP X.K):=by
 intro value d pins s σ H x y v u Q I k g h f;obtain⟨p,xs,i,z,rfl,rfl,m,l,q⟩:=h;cases k;obtain⟨t,rfl⟩:=g;obtain⟨its,r,pl,C⟩:=I.list m;obtain⟨j,h1,h2,B,n,o⟩:=mX l;obtain⟨w,e,c⟩:=r.get h2;have A:=r.length;have D:=Ec;have a:EP X pins σ Q w s:=⟨z,H,I,c,q⟩;by_cases h0:0<=i
 ·have b:i.toNat=j:=by
   rw[seqIndex_of h0 o]at h1;exact Option.some.inj h1
  exact item_listR pl.isList h0 (by omega) (by rw[b];simpa using e) a f
 ·have b:(i+(its.toArray.size:Int)).toNat=j:=by
   rw[seqIndex_neg (by omega) n]at h1;rw[Eb,<-A];exact Option.some.inj h1
  exact o_ (x:=w) pl.isList.typeIs slot_list_getitem.lookup
   (wpAny_getItem_list_neg (Q:=λr s'=>r=w/\EP X pins σ Q r s') pl.isList (by omega) (by rw[Eb]<;>omega) (by omega) (by rw[b];simpa using e) ⟨U,a⟩) f
theorem Az:Qn X (RN X.K):=by
 intro value c pins s σ H x y v u Q I f d h l;obtain⟨p,xs,i,z,rfl,rfl,k,g,q⟩:=h;cases f;obtain⟨t,rfl⟩:=d;obtain⟨its,r,pl,A⟩:=I.tuple k;obtain⟨j,h1,h2,o,n,B⟩:=mX g;obtain⟨w,e,b⟩:=r.get h2;have m:=r.length;have C:=Ec;have a:EP X pins σ Q w s:=⟨z,H,I,b,q⟩;exact o_ (x:=w) pl.typeIs slot_tuple_getitem.lookup
  (getItem_tuple (j:=j) (Q:=λr s'=>r=w/\EP X pins σ Q r s') pl (by omega) (by omega) (by rw[Eb,<-m];exact h1) (by simpa using e) ⟨U,a⟩) l
theorem wL:Qn X X8:=by
 intro value a pins s σ H x y v u Q I e b h l;obtain⟨z,i,c,rfl,rfl,p,f,q⟩:=h;obtain⟨t,rfl⟩:=e;obtain⟨t',rfl⟩:=b;obtain⟨j,h1,h2,o,k,m⟩:=mX f;have n:z.cps.toList.length=z.length:=by simp[Str.length]
 rw[n]at h1 k m;have r:=Ec
 exact tail_any (OJ s z t) slot_str_getitem.lookup (getItem_str (c:=c) (by
  have g:decide (i < -(2^63:Int))=false:=FZ (by omega)
  have d:decide (i>=2^63)=false:=FZ (by omega)
  rw[g,d,YJ]) (by rw[h1];simpa using h2) ⟨.str ⟨#[c]⟩,H,I.tok _,⟨_,U⟩,q⟩) l
theorem zP(lo hi:Option Int)(n:Nat):(sliceBounds lo hi none n).1=((HT.Bp n 0 lo:Nat):Int)/\(sliceBounds lo hi none n).2.1=((HT.Bp n n hi:Nat):Int)/\(sliceBounds lo hi none n).2.2=1:=by
 refine⟨?_,?_,U⟩
 ·cases lo with
  | none=>simp[sliceBounds,HT.Bp]
  | some i =>
   simp only[sliceBounds,HT.Bp,Option.getD_none,show (1:Int)>0 by decide,N_];by_cases h:i<0
   ·simp only[h,N_]<;>omega
   ·simp only[h,Pg]<;>omega
 ·cases hi with
  | none=>simp[sliceBounds,HT.Bp]
  | some i =>
   simp only[sliceBounds,HT.Bp,Option.getD_none,show (1:Int)>0 by decide,N_];by_cases h:i<0
   ·simp only[h,N_]<;>omega
   ·simp only[h,Pg]<;>omega
theorem zV(its:U5)(lo hi:Option Int):slicePick its.toArray lo hi none=((its.drop (HT.Bp its.length 0 lo)).take (HT.Bp its.length its.length hi-HT.Bp its.length 0 lo)).toArray:=by
 obtain⟨h1,h2,a⟩:=zP lo hi its.toArray.size;unfold slicePick;rw[h1,h2,a];simp only[sliceRange_one,pick_run,Eb]<;>rfl
def X6 (K:U0):V->Option Int->Option Int->Hp->VK->Prop:=λx lo hi H Q=>∃a xs,x=.ref a/\Af K H a xs/\∀p,H p=none->Q (.ref p) (upd H p (.lst (Du xs lo hi)))
theorem WR:VJ X (X6 X.K):=by
 intro pins s σ H x v k l lo hi n Q I e g pl j h;obtain⟨a,xs,rfl,f,q⟩:=h;cases e;obtain⟨its,r,d,i⟩:=I.list f;have c:=r.length;refine⟨"list",_,slot_list_getitem.lookup,d.isList.typeIs,?_⟩;refine wpAny_getItem_list_slice d.isList g pl j .none (by simp) ?_ (by rw[Eb]<;>omega);rw[zV,<-c];refine⟨.ref s.heap.objs.size,_,I.laid (t':=s.toks) (o:=.lst (Du xs lo hi)) (λb m q=>Df _ q) (Bj _) ?_,U,q _ (I.hok.fresh (Bj _))⟩;exact⟨Cv (qZ xs lo hi) i,_,0,(r.drop (HT.Bp xs.length 0 lo)).take (HT.Bp xs.length xs.length hi-HT.Bp xs.length 0 lo),Ej _ rfl⟩
noncomputable def El:V->Bool
 | .non=>true
 | .bl _=>true
 | .int _=>true
 | .str _=>true
 | _=>false
noncomputable def MP:V->V->Bool
 | .non,.non=>true
 | .bl a,.bl b=>a == b
 | .bl a,.int b=>(if a then 1 else 0) == b
 | .int a,.bl b=>a == (if b then 1 else 0)
 | .int a,.int b=>a == b
 | .str a,.str b=>a == b
 | _,_=>false
variable{x:V}{u v:W2}
theorem X7r{A:W7}{s:U7}{y:V}(ry:RelV y u)(rx:RelV x v)(fy:El y=true)(fx:El x=true):SeqAt.EqAt A s u v (MP y x):=by
 cases y with
 | non =>
  cases ry;cases x with
  | non=>cases rx;exact SeqAt.EqAt.same _
  | bl b=>cases rx;exact SeqAt.EqAt.none_bool b
  | int b=>obtain⟨t,rfl⟩:=rx;exact SeqAt.EqAt.none_int b t
  | str b=>obtain⟨t,rfl⟩:=rx;exact SeqAt.EqAt.none_str b t
  | _=>exact absurd (show false=true from fx) Ft
 | bl a =>
  cases ry;cases x with
  | non=>cases rx;exact SeqAt.EqAt.bool_none a
  | bl b=>cases rx;exact SeqAt.EqAt.bool_bool a b
  | int b=>obtain⟨t,rfl⟩:=rx;exact SeqAt.EqAt.bool_int a b t
  | str b=>obtain⟨t,rfl⟩:=rx;exact SeqAt.EqAt.bool_str a b t
  | _=>exact absurd (show false=true from fx) Ft
 | int a =>
  obtain⟨t',rfl⟩:=ry;cases x with
  | non=>cases rx;exact SeqAt.EqAt.int_none a t'
  | bl b=>cases rx;exact SeqAt.EqAt.int_bool a t' b
  | int b=>obtain⟨t,rfl⟩:=rx;exact SeqAt.EqAt.int_int a t' b t
  | str b=>obtain⟨t,rfl⟩:=rx;exact SeqAt.EqAt.int_str a t' b t
  | _=>exact absurd (show false=true from fx) Ft
 | str a =>
  obtain⟨t',rfl⟩:=ry;cases x with
  | non=>cases rx;exact SeqAt.EqAt.str_none a t'
  | bl b=>cases rx;exact SeqAt.EqAt.str_bool a t' b
  | int b=>obtain⟨t,rfl⟩:=rx;exact SeqAt.EqAt.str_int a t' b t
  | str b=>obtain⟨t,rfl⟩:=rx;exact SeqAt.EqAt.str_str a t' b t
  | _=>exact absurd (show false=true from fx) Ft
 | _=>exact absurd (show false=true from fy) Ft
noncomputable def Ip (x:V)(u:W2):Bool:=match u with
 | .none=>MP .non x
 | .bool b=>MP (.bl b) x
 | .int i _=>MP (.int i) x
 | .str z _=>MP (.str z) x
 | _=>false
theorem wG{y:V}(r:RelV y u)(f:El y=true):Ip x u=MP y x:=by
 cases y with
 | non=>cases r;rfl
 | bl b=>cases r;rfl
 | int i=>obtain⟨t,rfl⟩:=r;rfl
 | str z=>obtain⟨t,rfl⟩:=r;rfl
 | _=>exact absurd (show false=true from f) Ft
theorem Uj{x:V}:∀{xs:List V}{us:U5},Vals xs us->xs.all El=true->us.any (Ip x)=xs.any λy=>MP y x
 | _,_,.nil,_=>rfl
 | y::xs,u::us,.cons r t,f=>by
  rw[List.all_cons,Gk]at f;rw[YK,YK,wG r f.1,Uj t f.2]
theorem Uu{A:W7}{s:U7}{x:V}{v:W2}(rx:RelV x v)(fx:El x=true):∀{xs:List V}{us:U5},Vals xs us->xs.all El=true->∀u∈us,SeqAt.EqAt A s u v (Ip x u)
 | _,_,.nil,_=>λu a=>by cases a
 | y::xs,u::us,.cons r t,f=>λb a=>by
  rw[List.all_cons,Gk]at f;rcases Cy.mp a with rfl | a
  ·rw[wG r f.1];exact X7r r rx f.1 fx
  ·exact Uu rx fx t f.2 b a
noncomputable def inV (x:V)(xs:List V):Bool:=xs.any λy=>MP y x
def oN (K:U0)(neg:Bool):R2:=λx y H Q=>∃p xs,y=.ref p/\(Af K H p xs\/Ah K H p xs)/\El x=true/\xs.all El=true/\Q (.bl (if neg then !inV x xs else inV x xs)) H
theorem Y4g:C_ X (compareOp .In) (oN X.K false):=by
 intro pins s σ H x y v u Q I c e h;obtain⟨p,xs,rfl,a,d,fs,q⟩:=h;cases e;rcases a with a | a
 ·obtain⟨its,r,pl,f⟩:=I.list a;refine SeqAt.in_listAt (Ip x) pl.isList (λw b=>Uu c d r fs w (by simpa using b)) ⟨.bl _,H,I,U,?_⟩;rw[show its.toArray.any (Ip x)=its.any (Ip x) by simp,Uj r fs];exact q
 ·obtain⟨its,r,pl,f⟩:=I.tuple a;refine SeqAt.in_tupleAt (Ip x) pl (λw b=>Uu c d r fs w (by simpa using b)) ⟨.bl _,H,I,U,?_⟩;rw[show its.toArray.any (Ip x)=its.any (Ip x) by simp,Uj r fs];exact q
theorem qp:C_ X (compareOp .NotIn) (oN X.K true):=by
 intro pins s σ H x y v u Q I c e h;obtain⟨p,xs,rfl,a,d,fs,q⟩:=h;cases e;rcases a with a | a
 ·obtain⟨its,r,pl,f⟩:=I.list a;refine SeqAt.notIn_listAt (Ip x) pl.isList (λw b=>Uu c d r fs w (by simpa using b)) ⟨.bl _,H,I,U,?_⟩;rw[show its.toArray.any (Ip x)=its.any (Ip x) by simp,Uj r fs];exact q
 ·obtain⟨its,r,pl,f⟩:=I.tuple a;refine SeqAt.notIn_tupleAt (Ip x) pl (λw b=>Uu c d r fs w (by simpa using b)) ⟨.bl _,H,I,U,?_⟩;rw[show its.toArray.any (Ip x)=its.any (Ip x) by simp,Uj r fs];exact q
theorem IW:CJ X (.builtin "len") (λxs H Q=>∃p ys,xs=[.ref p]/\(Af X.K H p ys\/Ah X.K H p ys)/\Q (.int ys.length) H):=by
 intro pins s σ H xs us Q I r h;obtain⟨p,ys,rfl,b,q⟩:=h;obtain⟨u,rfl,d⟩:=vals1 r;cases d;have f:=Ec;rcases b with b | b
 ·obtain⟨its,c,pl,e⟩:=I.list b;have a:=c.length;exact Calls.call_len_list pl.isList (by simp only[Eb]<;>omega) ⟨.int ys.length,H,I.tok _,⟨s.toks+1,by rw[Eb,a]⟩,q⟩
 ·obtain⟨its,c,pl,e⟩:=I.tuple b;have a:=c.length;exact len_tuple pl (by simp only[Eb]<;>omega) ⟨.int ys.length,H,I.tok _,⟨s.toks+1,by rw[Eb,a]⟩,q⟩
theorem Ws:CJ X (.builtin "len") (λxs H Q=>∃z,xs=[.str z]/\z.length<=sizeLine/\Q (.int z.length) H):=by
 intro pins s σ H xs us Q I r h;obtain⟨z,rfl,b,q⟩:=h;obtain⟨u,rfl,t,rfl⟩:=vals1 r;have a:=Ec;exact len_str (by omega) ⟨.int z.length,H,I.tok _,⟨_,U⟩,q⟩
theorem mD:CJ X (.type "list") (λxs H Q=>∃p ys,xs=[.ref p]/\(Af X.K H p ys\/Ah X.K H p ys)/\∀l,H l=none->Q (.ref l) (upd H l (.lst ys))):=by
 intro pins s σ H xs us Q I r h;obtain⟨p,ys,rfl,g,q⟩:=h;obtain⟨u,rfl,t⟩:=vals1 r;cases t;have f:∀(its:U5),Vals ys its->ys.length<=sizeLine->∀(h':Heap) (c':Nat),(∀b o',s.heap.get? b=some o'->h'.get? b=some o') ->
   h'.get? s.heap.objs.size=some { cls:=.type "list",dict:=none,data:=.seq its.toArray c',slots:=#[]}->EP X pins σ Q (.ref s.heap.objs.size) {s with heap:=h'}:=λits a i h' c' c e =>
  ⟨.ref s.heap.objs.size,_,I.laid (t':=s.toks) c (Bj _) (show B_ X.prog X.w _ h' _ (.lst ys) from ⟨i,its,c',a,e⟩),U,q _ (I.hok.fresh (Bj _))⟩
 rcases g with g | g
 ·obtain⟨its,a,pl,i⟩:=I.list g;have d:=a.length;obtain⟨o,k,m,n,j⟩:=pl.isList;exact call_list_seq p (.inl rfl) k m j (λh' c' c e=>f its a i h' c' c e) (by simp only[Eb]<;>omega)
 ·obtain⟨its,a,pl,i⟩:=I.tuple g;have d:=a.length;obtain⟨o,k,m,n,j⟩:=pl;exact call_list_seq p (.inr rfl) k m j (λh' c' c e=>f its a i h' c' c e) (by simp only[Eb]<;>omega)
theorem qu:CJ X (.type "tuple") (λxs H Q=>∃p ys,xs=[.ref p]/\((Af X.K H p ys/\∀l,H l=none->Q (.ref l) (upd H l (.tup ys)))\/(Ah X.K H p ys/\Q (.ref p) H))):=by
 intro pins s σ H xs us Q I r h;obtain⟨p,ys,rfl,h⟩:=h;obtain⟨u,rfl,i⟩:=vals1 r;cases i;rcases h with ⟨hq,q⟩ | ⟨hq,q⟩
 ·obtain⟨its,a,pl,f⟩:=I.list hq;have d:=a.length;refine call_tuple_list pl.isList (λh' g=>?_) (by simp only[Eb]<;>omega);have c:Inv X pins σ H {s with heap:=h'}:=I.kept (t':=s.toks) g;have j:Inv X pins σ (upd H h'.objs.size (.tup ys)) {s with heap:=h'.push { cls:=.type "tuple",data:=.seq its.toArray}} :=
   c.laid (t':=s.toks) (λb o e=>Df _ e) (Bj _) (show B_ X.prog X.w _ _ _ (.tup ys) from ⟨f,its,a,IsTup.new _ _⟩)
  exact⟨.ref h'.objs.size,_,j,U,q _ (c.hok.fresh (Bj _))⟩
 ·obtain⟨its,a,pl,f⟩:=I.tuple hq;exact call_tuple_same pl ⟨.ref p,H,I,U,q⟩
def Xk (K:U0)(T:String)(x:V)(H:Hp):Prop:=match x with
 | .str _=>T="str"
 | .int _=>T="int"
 | .ref p=>(T="list"/\∃xs,Af K H p xs)\/(T="tuple"/\∃o,K.lookup p=some o/\o.cls=.type "tuple"/\o.dict=none) \/
   (T="dict"/\((∃kvs,H p=some (.dK kvs))\/∃kvs,H p=some (.dT kvs)))\/(T="set"/\∃S n,H p=some (.set S n))
 | _=>False
theorem xK{pins:U1}{σ:St}{H:Hp}{s:U7}{T:String}(I:Inv X pins σ H s)(r:RelV x v)(ty:Xk X.K T x H):
  s.TypeIs v T/\∀a,v=.ref a->∃ob,s.heap.get? a=some ob/\ob.dict=none:=by
 cases x with
 | str z =>
  obtain⟨t,rfl⟩:=r;cases (show T="str" from ty);exact⟨OJ s z t,λ_ e=>nomatch e⟩
 | int i =>
  obtain⟨t,rfl⟩:=r;cases (show T="int" from ty);exact⟨typeIs_int s i t,λ_ e=>nomatch e⟩
 | ref p =>
  cases r;rcases ty with ⟨rfl,xs,hq⟩ | ⟨rfl,o,hk,hc,b⟩ | ⟨rfl,hk⟩ | ⟨rfl,S,n,hk⟩
  ·obtain⟨its,_,pl,_⟩:=I.list hq;refine⟨pl.isList.typeIs,λa e=>?_⟩;cases e;obtain⟨o,n,e,c,b,_⟩:=pl;exact⟨o,e,b⟩
  ·refine⟨⟨o,I.kIn p o hk,hc⟩,λa e=>?_⟩;cases e;exact⟨o,I.kIn _ o hk,b⟩
  ·have z:∃o,s.heap.get? p=some o/\o.ExactDict:=by
    rcases hk with ⟨kvs,hk⟩ | ⟨kvs,hk⟩
    ·obtain⟨_,_,_,_,o,_,_,e,ex,_⟩:=I.hok p _ hk;exact⟨o,e,ex⟩
    ·obtain⟨_,_,_,_,o,_,_,e,ex,_⟩:=I.hok p _ hk;exact⟨o,e,ex⟩
   obtain⟨o,e,ex⟩:=z;refine⟨⟨o,e,ex.1⟩,λa d=>?_⟩;cases d;exact⟨o,e,ex.2.1⟩
  ·obtain⟨o,_,_,_,e,ex,_⟩:=I.hok p _ hk;refine⟨⟨o,e,ex.1⟩,λa d=>?_⟩;cases d;exact⟨o,e,ex.2.1⟩
 | _=>exact False.elim ty
def Xr (K:U0)(T:String)(r:V->List V->Hp->VK->Prop)(to:TE):TE:=λσ H Q=>to σ H λx H1=>Xk K T x H1/\r x [] H1 Q
def yE (K:U0)(T:String)(r:V->List V->Hp->VK->Prop)(to:TE)(t:TA):TE:=λσ H Q=>to σ H λx H1=>Xk K T x H1/\t σ H1 λxs H2=>r x xs H2 Q
variable {o e:Expr}{es:List Expr}{to:TE}{t:TA}{name:Str}{apos cpos:Pos}{T id:String}{r:V->List V->Hp->VK->Prop}
theorem XM(pa:PlainAttrs T)(slot:Slot T name id)(hty:typeOf (.builtin id)=pure (.type "method_descriptor"))(hm:Nz X id r)(ho:PE X o to)
  (hbase:attributeBase o name X.env (eval o X.env)=eval o X.env:=by rfl) (hline:(apos.endLine == cpos.line)=true:=by rfl):PE X (.Call (.Attribute o name apos) [] [] cpos) (Xr X.K T r to):=by
 intro pins s σ H Q I h;refine wpAny_Call_method0_late hbase hline (BW (ho pins s σ H _ I h) λv d ⟨x,H1,a,b,ty,c⟩=>?_);obtain⟨h1,h2⟩:=xK a b ty;exact⟨T,id,pa,slot,hty,h1,h2,Calls.callWith_builtin rfl (PySem.evalArgs_none (hm pins d σ H1 x [] v [] Q a b .nil c))⟩
theorem Iu(pa:PlainAttrs T)(slot:Slot T name id)(hty:typeOf (.builtin id)=pure (.type "method_descriptor"))(hm:Nz X id r)(ho:PE X o to)(ha:PA X (e::es) t)
  (hbase:attributeBase o name X.env (eval o X.env)=eval o X.env:=by rfl)
  (hfew:((backTo cpos (starEach (e::es) X.env)).all (λx=>!x.1) && (backToKw cpos (keywordEach [] X.env)).all (λx=>x.1.isSome)
   && decide ((e::es).length+([]:List Keyword).length+(if ([]:List Keyword).isEmpty then 0 else 1)<30))=true:=by rfl)
  (hline:(apos.endLine == cpos.line)=true:=by rfl) (hs:starEach (e::es) X.env=(false,eval e X.env)::starEach es X.env:=by rfl) (hplain:(backTo cpos (starEach es X.env)).any (·.1)=false:=by rfl):
  PE X (.Call (.Attribute o name apos) (e::es) [] cpos) (yE X.K T r to t):=by
 intro pins s σ H Q I h;refine wpAny_Call_method_late hbase hfew hline rfl (BW (ho pins s σ H _ I h) λv i ⟨x,H1,a,b,ty,g⟩=>?_);obtain⟨h1,h2⟩:=xK a b ty;refine⟨T,id,pa,slot,hty,h1,h2,?_⟩;have c:=ha cpos pins i σ H1 _ a g;rw[hs]at c ⊢;refine Calls.callWith_builtin (by show (false || (backTo cpos (starEach es X.env)).any (·.1))=false;rw[hplain]<;>rfl) (Calls.evalArgs_plain ?_);exact BW c λus j ⟨vs,H2,k,f,d⟩=>hm pins j σ H2 x vs v us Q k b f d
end
def MtM (X:Cx)(id:String)(r:V->List V->Hp->VK->Prop):Prop :=
 ∀(pins:U1) (s:U7) (σ:St) (H:Hp) (x:V) (xs:List V) (v:W2) (us:U5) (Q:VK),Inv X pins σ H s->RelV x v->Vals xs us->r x xs H Q ->
  wpAny (model X.prog X.w) X.A (call (.builtin id) (v::us)) (EP X pins σ Q) X.xe s
theorem Vals.one{x:V}{us:U5}(h:Vals [x] us):∃u,us=[u]/\RelV x u:=by
 cases h with
 | cons r t=>cases t;exact⟨_,rfl,r⟩
theorem Vals.two{x y:V}{us:U5}(h:Vals [x,y] us):∃u v,us=[u,v]/\RelV x u/\RelV y v:=by
 cases h with
 | cons r t=>cases t with
  | cons q t=>cases t;exact⟨_,_,rfl,r,q⟩
section
variable {X:Cx}{pins:U1}{σ:St}{H:Hp}{s:U7}{l b:Y0}{xs ys zs:List V}
theorem Inv.lset{its its':U5}{f:Array Value->Array Value}{t':Nat}(I:Inv X pins σ H s)(hH:H l=some (.lst xs))
  (e:s.heap.get? l=some { cls:=.type "list",data:=.seq its.toArray n}) (hf:f its.toArray=its'.toArray) (hv:Vals ys its') (hz:ys.length<=sizeLine):
  Inv X pins σ (upd H l (.lst ys)) {s with heap:=s.heap.update l (Obj.mapSeq f),toks:=t'}:=by
 have q:=PySem.IsL.update e f;rw[hf]at q;refine I.write (x:=l) (e:=l) (by rw[hH];exact trivial) (.inl rfl) (λb' u hb a=>(Heap.get?_update_other s.heap (Obj.mapSeq f) (Ne.symm hb)).trans a) ⟨_,q⟩ ?_;exact⟨hz,its',_,hv,q⟩
theorem Inv.lnew{its:U5}{t':Nat}(I:Inv X pins σ H s)(hv:Vals ys its)(hz:ys.length<=sizeLine):
  Inv X pins σ (upd H s.heap.objs.size (.lst ys)) {s with heap:=s.heap.push { cls:=.type "list",data:=.seq its.toArray},toks:=t'} :=
 I.laid (λ_ _ q=>Df _ q) (Bj _) ⟨hz,its,0,hv,Ej _ rfl⟩
theorem Inv.fresh(I:Inv X pins σ H s):H s.heap.objs.size=none:=I.hok.fresh (Bj _)
theorem Inv.lstM(I:Inv X pins σ H s)(hH:H l=some (.lst xs)):xs.length<=sizeLine/\∃(its:U5) (n:Nat),Vals xs its/\xs.length=its.length/\s.heap.get? l=some { cls:=.type "list",data:=.seq its.toArray n}:=by
 obtain⟨z,its,n,r,e⟩:=I.hok l _ hH;exact⟨z,its,n,r,r.length,e⟩
theorem X8d(h:n<=sizeLine):Builtin.List.listTooLong n=false:=by
 unfold Builtin.List.listTooLong;exact FZ (by omega)
end
section
variable {X:Cx}
def X1x:V->List V->Hp->VK->Prop:=λx vs H Q=>∃l xs y,x=.ref l/\vs=[y]/\H l=some (.lst xs)/\xs.length<sizeLine/\Q .non (upd H l (.lst (xs++[y])))
theorem Qe:MtM X "list.append" X1x:=by
 intro pins s σ H x vs v us Q I b d h;obtain⟨l,xs,y,rfl,rfl,a,f,q⟩:=h;cases b;obtain⟨u,rfl,c⟩:=d.one;obtain⟨z,its,n,r,g,e⟩:=I.lstM a;refine Ra F.slot_list_append ⟨_,e,U⟩ F.entry_list_append (F.args_list_append_2 _ _) (PySem.list_append l its.toArray n u (by rw[Eb];omega)) ⟨e,?_⟩;refine⟨.non,_,I.lset (its':=its++[u]) a e (by simp) (r.append (.cons c .nil)) ?_,U,q⟩;rw[G3,Yv];omega
def X8m:V->List V->Hp->VK->Prop:=λx vs H Q=>∃l b xs zs,x=.ref l/\vs=[.ref b]/\H l=some (.lst xs)/\H b=some (.lst zs)/\xs.length+zs.length<=sizeLine/\Q .non (upd H l (.lst (xs++zs)))
def X_:R2:=λx y H Q=>∃l b xs zs,x=.ref l/\y=.ref b/\H l=some (.lst xs)/\H b=some (.lst zs)/\xs.length+zs.length<=sizeLine/\∀p,H p=none->Q (.ref p) (upd H p (.lst (xs++zs)))
theorem mQ:C_ X (binaryOp .Add) X_:=by
 intro pins s σ H x y v u Q I j f h;obtain⟨l,b,xs,zs,rfl,rfl,k,c,t,q⟩:=h;cases j;cases f;obtain⟨z,its,n,r,w,e⟩:=I.lstM k;obtain⟨p,a,o,d,g,i⟩:=I.lstM c;refine PySem.P.add_list e i ?_ (by rw[Eb,Eb];omega);have m:its.toArray++a.toArray=(its++a).toArray:=by simp
 rw[m];exact⟨.ref _,_,I.lnew (t':=s.toks) (r.append d) (by rw[G3];omega),U,q _ I.fresh⟩
end
section
variable {prog:U8}{w:W1}{A:W7}{E:U2}{s:U7}
end
section
variable {X:Cx}
end
end L2
namespace xZ
open PySem.W PySem.Calls
variable{P:Params}{h:Heap}
theorem zX:∀(ns:U6) (vs:U5),WellAll P h vs (ns.map WData.int)->IntsAre vs ns:=by
 intro ns;induction ns with
 | nil =>
  intro vs w;rw[YC]at w;cases w;exact .nil
 | cons n ns ih =>
  intro vs w;rw[Ls]at w;cases w with
  | cons a b =>
   cases a;exact .cons _ _ (ih _ b)
variable{l:OpenLaw}{n:Nat}
theorem Y3m(hn:l.most=some n){args:List WData}{vals:U5}
  (hpre:l.row.toRowW.claim.pre args=true) (hwl:WellAll P h vals args):
  ∃a vs ns,vals=[Value.ref a]/\args=[WData.list (ns.map WData.int)]/\h.get? a=some { cls:=.type "list",data:=.seq vs.toArray}/\IntsAre vs ns/\ns.length<=n:=by
 have f:WShape.hasAll [] args [.list .int]=true:=(pre_splitW hpre).1;have g:l.pre.holds [] { args:=args}=true:=(pre_splitW hpre).2;obtain⟨d,r,rfl,h1,h2⟩:=hasAllW_cons f;obtain rfl:=hasAllW_nil h2;obtain⟨xs,rfl,i⟩:=hasW_list h1;obtain⟨ns,rfl⟩:=items_int i;have b:ns.length<=n:=by
  unfold OpenLaw.pre at g;have e:(WTm.not (.lt (.lit (.int (n:Int))) (.len (.arg 0)))).holds [] { args:=[.list (ns.map .int)]}=true:=by
   have e:=(holds_andW g).1;rw[hn]at e;exact e
  have c:=condW_of e (w_not (w_lt w_lit (w_len_list (w_arg rfl))));rw[BJ]at c;refine Nat.le_of_not_lt λq=>?_;have j:(n:Int)<((ns.length:Nat):Int):=by omega
  first
   | (rw[Jc j]at c;exact absurd c (by decide))
   | (simp at c;omega)
 cases hwl with
 | cons w1 w2 =>
  cases w2;cases w1 with
  | list ho hall=>exact⟨_,_,ns,rfl,rfl,ho,zX ns _ hall,b⟩
theorem Y3u(l:OpenLaw)(args:List WData):l.row.toRowW.claim.post args (.bool true) args=true :=
 postW_of (r:=l.row.toRowW) (X:=(true == true))
  (show WShape.has [] (.bool true) .bool=true by first | rfl | decide | simp[WShape.has,WShape.arms,WShape.armsAll])
  (show (WTm.eq .res (.lit (.bool true))).value [] { args:=args,res:=some (.bool true),after:=args}=some (.bool (true == true)) from w_eq_bool (w_res rfl) w_lit) rfl
theorem Y0a{q:U8}{loose:W0}{XP:(Str->Option Value)->Heap->Prop}{YP:World->Heap->Prop}{d:DefRec}
  (hn:l.most=some n) (hdf:d.params.defaults=[])
  (call:∀(w:W1) (s b:U7) (mg v:U4) (g:Y0) (o:Obj) (m k e:W2) (a:Y0) (vs:U5) (ns:U6),
   Ground q loose [] XP w s mg v b.heap->YP w b.heap ->
   b.heap.get? g=some o->o.data=.func (docDef d.name d.params d.body d.scope m k e)->b.heap.CodeRec k d.name->mg d.name=some (.ref g) ->
   b.heap.get? a=some { cls:=.type "list",data:=.seq vs.toArray}->IntsAre vs ns->ns.length<=n->b.gens=#[] ->
   codeAny (model l.prog w) callerA (.call (.ref g) ⟨[.ref a],[]⟩) (λr s'=>r=.ok (.ret (.bool true))/\OldK b.heap s'.heap/\s'.os=b.os/\AllBare s'.gens) b):
  WalkO q loose XP YP l.row.toRowW d [] (λf vs=>PySem.call f vs):=by
 intro w s b mg v G Y g o m k e J kV B z t x u A args vals K h y I p H;obtain rfl:J=.none:=Dflts.none x hdf;obtain rfl:kV=.none:=Dflts.noKw x;obtain⟨a,vs,ns,rfl,rfl,j,c,i⟩:=Y3m hn h p;refine enter_call (M9 (call w s b mg v g o m k e a vs ns G Y B (fd_plain z) t u j c i A) λr s' C=>?_);obtain⟨rfl,h2,E,D⟩:=C;exact⟨.inl ⟨.bool true,.bool true,[],U,λ_=>rfl,.bool true,Y3u l _,λ_=>⟨List.Pairwise.nil,λ_ F=>(nomatch F)⟩⟩,h2,E,D⟩
section
variable {prog:U8}{w:W1}{A:W7}{E:U2}{s:U7}{K:Frag}
end
end xZ
namespace L2
theorem qN:∀{vs:U5}{ns:U6},IntsAre vs ns->Vals (ns.map V.int) vs
 | _,_,.nil=>.nil
 | _,_,.cons n t h=>.cons ⟨t,rfl⟩ (qN h)
def Only (H:Hp):Prop:=∀b,H b=none\/∃o xs,H b=some (.frz o (.lst xs))
theorem _O{P:U8}{w:W1}{K:U0}{mg mb:U4}{CX:Lg}{k:Nat}{fa a:Y0}{fd:FuncData}{x:Str}{sp:Sp}{s₁:U7}{vs:U5}{ns:U6}
  (KX:K.In s₁.heap) (hns:s₁.heap.Ns mainGlobals mg) (hb:s₁.heap.Ns builtinsNs mb) (hbb:∀x:Str,x≠"__name__"->mb x=bootBuiltins x) (hlim:s₁.heap.NoLimit) (hg:s₁.gens=#[])
  (ha:s₁.heap.get? a=some { cls:=.type "list",data:=.seq vs.toArray}) (hi:IntsAre vs ns) (hl:ns.length<=sizeLine) (hr:Bl k callerA)
  (F:∀base:Heap,K.In base->base.Ns mainGlobals mg->Cd P w K mg base CX k fa fd [x] sp) (hbind:∀(s:U7) (u:W2),BindsTo s fd ⟨[u],[]⟩ [(x,u)])
  (hsp:∀H:Hp,Only H->Af K H a (ns.map V.int)->sp [.ref a] H (λv _=>v=.bl true) λ_ _ _=>False)
  (hCX:∀H e s',CX [] H s₁ (λ_ _ _=>False) e s'->False):
  codeAny (model P w) callerA (.call (.ref fa) ⟨[.ref a],[]⟩) (λr s'=>r=.ok (.ret (.bool true))/\OldK s₁.heap s'.heap/\s'.os=s₁.os/\AllBare s'.gens) s₁:=by
 have G:=qN hi;have y:=hi.length;have g:∀H:Hp,Only H->Af K H a (ns.map V.int)->FJ P w H s₁.heap->(∀b,H b≠none->b=a)->(H a≠none->K.lookup a=none) ->
   codeAny (model P w) callerA (.call (.ref fa) ⟨[.ref a],[]⟩) (λr s'=>r=.ok (.ret (.bool true))/\OldK s₁.heap s'.heap/\s'.os=s₁.os/\AllBare s'.gens) s₁:=by
  intro H E Q p C I;have c:∀{b:Y0}{o:Obj},s₁.heap.get? b=some o->H b=none->(Gr s₁.heap H).get? b=some o:=λe n=>_K e n;have B:∀{b:Y0}{o:Obj}{es:Array DictEntry}{ep:Nat},s₁.heap.get? b=some o->o.data=.dict es ep->H b=none:=λ{b o es ep} e d=>by
   cases q:H b with
   | none=>rfl
   | some u =>
    have A:b=a:=C b (by rw[q];simp);subst A;rw[ha]at e;cases e;have d':Data.seq vs.toArray _=Data.dict es ep:=d;cases d'
  have f:∀{b:Y0}{m:U4},s₁.heap.Ns b m->(Gr s₁.heap H).Ns b m:=λ{b m} ⟨o,es,ep,e,d,r⟩=>⟨o,es,ep,c e (B e d),d,r⟩
  have l:K.In (Gr s₁.heap H):=λb o e=>c (KX b o e) (by
   cases q:H b with
   | none=>rfl
   | some u =>
    have A:b=a:=C b (by rw[q];simp)
    subst A
    rw[I (by rw[q];simp)]at e;cases e)
  have R:Mod K mg (Gr s₁.heap H):=⟨l,f hns,⟨mb,f hb,hbb⟩,let ⟨mc,h1,h2⟩:=hlim;⟨mc,f h1,h2⟩⟩;have L:JK P w K mg (Gr s₁.heap H) callerA [] s₁ H:=⟨U,R,λb o e=>X3h e,YD (Y5r _ _),trivial,λb hb=>absurd (show b∈([]:U3) from hb) (by simp),p,.of_eq hg⟩;refine M9 ((F _ l (f hns)).run callerA [] s₁ H ⟨[.ref a],[]⟩ [.ref a] [.ref a] _ _ hr L (hbind s₁ (.ref a)) (.cons rfl .nil) (hsp H E Q)) λr s' h=>?_;cases r with
  | error e=>exact(hCX H e s' h).elim
  | ok fl =>
   cases fl with
   | next=>exact False.elim h
   | brk=>exact False.elim h
   | cont=>exact False.elim h
   | ret u =>
    obtain⟨v,H',os,i,un,j,O,q⟩:=h;have J:v=.bl true:=q;subst J;obtain rfl:u=Value.bool true:=O;refine⟨U,OldK.of_keep λb o e=>?_,os,i⟩;cases q:H b with
    | none=>exact un.keep b o e q (by intro z;exact absurd (show b∈([]:U3) from z) (by simp)) (by simp)
    | some u =>
     rcases E b with z | ⟨ob,xs,z⟩
     ·rw[q]at z;cases z
     ·have N:=un.frzs b ob _ z;obtain⟨D,_⟩:=p b _ z;obtain⟨M,_⟩:=j b _ N;rw[e]at D;cases D;exact M
 cases hk:K.lookup a with
 | some o =>
  have e:=KX a o hk;rw[ha]at e;cases e;refine g (λ_=>none) (λ_=>.inl rfl) (.inr ⟨_,vs.toArray,_,hk,U,U,U,by rw[Eb,y];exact hl,by simpa using G⟩) (λb u z=>by have t:(none:Option HO)=some u:=z;cases t) (λb z=>absurd rfl z) λz=>absurd rfl z
 | none =>
  refine g (λb=>if b=a then some (.frz { cls:=.type "list",data:=.seq vs.toArray} (.lst (ns.map V.int))) else none) (λb=>?_) (.inl (.inr ⟨{ cls:=.type "list",data:=.seq vs.toArray},if_pos rfl⟩)) (λb u z=>?_) (λb z=>?_) λ_=>hk
  ·by_cases hb:b=a
   ·exact .inr ⟨_,_,if_pos hb⟩
   ·exact .inl (if_neg hb)
  ·by_cases hb:b=a
   ·have t:=(if_pos hb).symm.trans z;cases t;subst hb;exact⟨ha,by rw[BJ];exact hl,vs,_,G,ha⟩
   ·have t:=(if_neg hb).symm.trans z;cases t
  ·by_cases hb:b=a
   ·exact hb
   ·exact absurd (if_neg hb) z
theorem X1l{l:PySem.W.OpenLaw}{n k:Nat}{q:U8}{loose:W0}{XP:(Str->Option Value)->Heap->Prop}{YP:World->Heap->Prop}{d:DefRec}{K:Params->U0}{CX:World->Lg}{sp:World->Sp}{x:Str}
  (hn:l.most=some n) (hn2:n<=sizeLine) (hdf:d.params.defaults=[]) (hr:Bl k callerA)
  (hY:∀(w:W1) (h:Heap),YP w h->(K w.params).In h)
  (F:∀(w:W1) (mg:U4) (m:Y0) (h:Heap),(K w.params).In h->h.Ns mainGlobals mg->mg d.name=some (.ref m) ->
   ∃fd:FuncData,(∀(s:U7) (u:W2),BindsTo s fd ⟨[u],[]⟩ [(x,u)]) /\
    ∀base:Heap,(K w.params).In base->base.Ns mainGlobals mg->Cd l.prog w (K w.params) mg base (CX w) k m fd [x] (sp w))
  (hsp:∀(w:W1) (H:Hp) (a:Y0) (ns:U6),ns.length<=n->Only H->Af (K w.params) H a (ns.map V.int)->sp w [.ref a] H (λv _=>v=.bl true) λ_ _ _=>False)
  (hCX:∀(w:W1) (H:Hp) (s:U7) (e:W2) (s':U7),CX w [] H s (λ_ _ _=>False) e s'->False):
  PySem.W.WalkO q loose XP YP l.row.toRowW d [] (λf vs=>PySem.call f vs):=by
 refine xZ.Y0a hn hdf λw M z mg N m o J L A a vs ns G Y I E D p j i c t=>?_;have r:=hY w _ Y;obtain⟨fd,hb,B⟩:=F w mg m _ r G.T.g p;exact _O r G.T.g G.T.b G.T.builtins G.T.nolimit t j i (Cv c hn2) hr B hb (λH y C=>hsp w H a ns c y C) λH e s'=>hCX w H z e s'
end L2
namespace L2
noncomputable def BP (s:Stmt)(j:Nat):Stmt:=match s with
 | .ClassDef _ _ _ body _ _ _ _ _ _ _=>body.getD j (.Pass ⟨0,0,0,0⟩)
 | _=>.Pass ⟨0,0,0,0⟩
noncomputable def Cr (s:Stmt):Arguments:=match s with
 | .FunctionDef _ a _ _ _ _ _ _ _ _=>a
 | _=>{ posonlyargs:=[],args:=[],vararg:=none,kwonlyargs:=[],kw_defaults:=[],kwarg:=none,defaults:=[]}
noncomputable def Cj (s:Stmt):List Stmt:=match s with
 | .FunctionDef _ _ b _ _ _ _ _ _ _=>b
 | _=>[]
noncomputable def Bh (s:Stmt):Scope:=match s with
 | .FunctionDef _ _ _ _ _ _ sc _ _ _=>sc
 | _=>{ kind:=.function,names:=[],isGenerator:=false,isCoroutine:=false}
noncomputable abbrev GP:Lg:=λ_ _ _ _ _ _=>False
abbrev E0:XK:=λ_ _ _=>False
theorem Ga{X:Cx}:Passes GP X E0:=λ_ _ _ _ _ _ _ h=>h.elim
structure Xj (K:U0) (x qual:Str) (st:Stmt) (f:Y0) (fd:FuncData):Prop where
 ex:∃(oc:W2) (od:W5) (kV doc pm:W2) (an:W5) (cdv ct:W2) (osl:W4),
  fd=PySem.W.fnOf x qual (Cr st) (Cj st) (Bh st) .none kV doc pm an cdv ct/\K.lookup f=some ⟨oc,od,.func fd,osl⟩/\PySem.W.codeIn K cdv qual=true
 kp:PySem.W.keepIn K (.ref f)=true
section
variable {P:U8}{w:W1}{K:U0}{mg:U4}{base:Heap}
variable{qual:Str}{f:Y0}
theorem Xj.ok{x:Str}{st:Stmt}{fd:FuncData}{N ps:W0}{k:Nat}{sp:Sp}(F:Xj K x qual st f fd)(S:Ar N ps (Bh st))(len:∀vs H Q E,sp vs H Q E->vs.length=ps.length)
  (hbody:∀(a:W2) (A:W7) (outer:List Env) (s:U7) (H:Hp) (vs:List V) (Q:VK) (E:XK),Bl k (A.deeper (envOfC qual (Bh st) s.heap.objs.size f a))->sp vs H Q E ->
   ∃t,GF (Fi GP P w K mg base N qual (Bh st) f a A outer s H E).nox (Cj st) t/\t { nx:=λ_ H'=>Q .non H',rt:=Q} (start N vs) H):Cd P w K mg base GP (k+1) f fd ps sp:=by
 obtain⟨n,l,kV,g,j,m,a,ct,d,rfl,i,b⟩:=F.ex;refine Wu i b S len λA outer s H vs Q E e c=>?_;obtain⟨t,h,q⟩:=hbody a A outer s H vs Q E e c;exact⟨t,h.nox,q⟩
theorem X7q{x:Str}{st:Stmt}{oc:W2}{od an:W5}{osl:W4}{kV doc pm cdv ct:W2}(l:K.lookup f=some ⟨oc,od,.func (PySem.W.fnOf x qual (Cr st) (Cj st) (Bh st) .none kV doc pm an cdv ct),osl⟩)
  (c:PySem.W.codeIn K cdv qual=true) (k:PySem.W.keepIn K (.ref f)=true):Xj K x qual st f (PySem.W.fnOf x qual (Cr st) (Cj st) (Bh st) .none kV doc pm an cdv ct):=⟨⟨oc,od,kV,doc,pm,an,cdv,ct,osl,U,l,c⟩,k⟩
end
section
variable {X:Cx}
theorem pv(i:Nat){x:Str}{pos:Pos}(hN:X.N[i]?=some x:=by rfl)(hv:Xd X.env.scope x:=by first | exact Or.inl rfl | exact Or.inr (Or.inl rfl) | exact Or.inr (Or.inr rfl))(hd:(x == ("__debug__":Str))=false:=by decide)
  (hcd:(x == ("__classdict__":Str))=false:=by decide):PE X (.Name x pos) (Gi i):=X5w hN hv hd hcd
end
theorem Bc{A B:Prop}(h:B):if false=true then A else B:=by
 rw[if_neg Ft];exact h
theorem DQ{A B:Prop}(h:A):if true=true then A else B:=by
 rw[if_pos rfl];exact h
def Same (H H':Hp):Prop:=∀b o,H b=some o->H' b=some o
theorem Same.refl(H:Hp):Same H H:=λ_ _ h=>h
variable{H:Hp}
theorem Same.trans{H1 H2:Hp}(a:Same H H1)(b:Same H1 H2):Same H H2:=λc o h=>b c o (a c o h)
theorem Same.free{H':Hp}(e:Same H H'){l:Y0}(h:H' l=Option.none):H l=Option.none:=by
 cases q:H l with
 | none=>rfl
 | some o =>
  rw[e l o q]at h;cases h
theorem Same.seq{K:U0}{H':Hp}{a:Y0}{xs:List V}(e:Same H H')(h:Af K H a xs):Af K H' a xs:=by
 rcases h with (h | ⟨o,h⟩) | h
 ·exact .inl (.inl (e _ _ h))
 ·exact .inl (.inr ⟨o,e _ _ h⟩)
 ·exact .inr h
end L2
set_option maxHeartbeats 4000000
namespace L2
def Sz (k:Nat)(x:Int):Prop:=x.natAbs<2^k
instance (k:Nat) (x:Int):Decidable (Sz k x):=by unfold Sz;infer_instance
variable{j k:Nat}{x:Int}
theorem Sz.mono(h:Sz j x)(hjk:j<=k):Sz k x:=GC h (QC (by decide) hjk)
variable{y:Int}
theorem Sz.le(h:Sz k x)(hy:y.natAbs<=x.natAbs):Sz k y:=Vv hy h
theorem Sz.mul(h:Sz j x)(h':Sz k y):Sz (j+k) (x*y):=by
 unfold Sz at *;rw[Hv,Nat.pow_add];exact Nat.mul_lt_mul'' h h'
theorem Sz.neg(h:Sz k x):Sz k (-x):=by unfold Sz at *;rwa [Int.natAbs_neg]
theorem Sz.add(h:Sz j x)(h':Sz k y):Sz (max j k+1) (x+y):=by
 have h1:=h.mono (Nat.le_max_left j k);have h2:=h'.mono (Nat.le_max_right j k);unfold Sz at *;rw[Nat.pow_succ];have:=Int.natAbs_add_le x y;omega
theorem Sz.sub(h:Sz j x)(h':Sz k y):Sz (max j k+1) (x-y):=by
 have:=h.add h'.neg;rwa [<-Int.sub_eq_add_neg]at this
theorem Sz.of_bound{b:Int}(h1:-b<=x)(h2:x<=b)(hb:b.natAbs<2^k):Sz k x:=by
 unfold Sz;omega
theorem Sz.bits(h:Sz k x):Builtin.Int.intBits x<=k:=by
 unfold Builtin.Int.intBits;split
 ·exact Dz _
 ·rename_i hx;have b:x≠0:=by simpa using hx
  have a:x.natAbs≠0:=by omega
  exact(Nat.log2_lt a).mpr h
theorem Sz.log2(h:Sz k x)(hk:0<k):x.natAbs.log2<k:=by
 by_cases hn:x.natAbs=0
 ·rw[hn];simpa using hk
 ·exact(Nat.log2_lt hn).mpr h
def Jp (_i j:Int):Prop:=j≠0/\Sz 9000 j
section
variable {X:Cx}
theorem Uw:C_ X (binaryOp .FloorDiv) (rI Jp λi j=>.int (i.fdiv j)):=NZ λ_ _ _ _ _ _ _ a q=>floordiv_int a.1 q (.inl (PyProof.noPylong_of_log2 (a.2.log2 (by decide))))
theorem Wo{h:Heap}{a:Y0}{vs:U5}{ns:U6}(hl:IsTup h a vs.toArray)(hi:IntsAre vs ns):Reads h (.ref a) (.tuple (ns.map PyData.int)) []:=by
 obtain⟨o,c,d,n,b⟩:=hl;exact Reads.tuple c d b (by simpa using PySem.W.readsAll_of_ints hi)
theorem Wq(ns:U6):SeqAt.shaped (.tuple (ns.map PyData.int))=true:=by
 have h1:=PySem.W.depthAll_ints ns;have h2:PyData.depth (.tuple (ns.map PyData.int))<=64:=by simp only[PyData.depth];omega
 show (PyData.canLay0 (.tuple (ns.map PyData.int)) && decide (PyData.depth (.tuple (ns.map PyData.int))<=64))=true;rw[Gk];exact⟨by simp only[PyData.canLay0];exact PySem.W.canLayAll0_ints ns,Jc h2⟩
def Ja (K:U0)(neg:Bool):R2:=λx y H Q=>∃(a b:Y0) (ns ms:U6),x=.ref a/\y=.ref b/\Ah K H a (ns.map V.int)/\Ah K H b (ms.map V.int)/\Q (.bl (if neg then !decide (ns=ms) else decide (ns=ms))) H
theorem X2j(hu:X.A.units+64<cLine):C_ X (compareOp .Eq) (Ja X.K false):=by
 intro pins s σ H x y v u Q I e d h;obtain⟨a,b,ns,ms,rfl,rfl,h1,h2,q⟩:=h;cases e;cases d;obtain⟨its,g,p,_⟩:=I.tuple h1;obtain⟨its',c,f,_⟩:=I.tuple h2;refine eq_dataH_same (Wo p (Qg g)) (Wo f (Qg c)) (Wq ns) (Wq ms) hu (by simp only[SeqAt.noMix];exact PySem.W.noMix_ints ns ms) ?_;refine⟨.bl (decide (ns=ms)),H,I,?_,q⟩;show _=_;simp only[PySem.Spec.same];rw[PySem.W.same_ints]
theorem Ul(hu:X.A.units+64<cLine):C_ X (compareOp .NotEq) (Ja X.K true):=by
 intro pins s σ H x y v u Q I e d h;obtain⟨a,b,ns,ms,rfl,rfl,h1,h2,q⟩:=h;cases e;cases d;obtain⟨its,g,p,_⟩:=I.tuple h1;obtain⟨its',c,f,_⟩:=I.tuple h2;refine ne_dataH_same (Wo p (Qg g)) (Wo f (Qg c)) (Wq ns) (Wq ms) hu (by simp only[SeqAt.noMix];exact PySem.W.noMix_ints ns ms) ?_;refine⟨.bl (!decide (ns=ms)),H,I,?_,q⟩;show _=_;simp only[PySem.Spec.same];rw[PySem.W.same_ints]
theorem J7:CJ X (.builtin "isinstance") (λxs H Q=>∃x T t b,xs=[x,.ty T]/\CZ X.K H x t/\PySem.W.kitOne X.K t (.type T)=some b/\Q (.bl b) H):=by
 intro pins s σ H xs us Q I r h;obtain⟨x,T,t,b,rfl,ty,e,q⟩:=h;obtain⟨u,v,rfl,a,c⟩:=r.two;cases c;exact Y5o I a ty e λtk=>⟨.bl b,H,I.tok tk,U,q⟩
end
section
variable {prog:U8}{w:W1}{A:W7}{E:U2}
end
section
variable {X:Cx}{pos:Pos}
end
section
variable {X:Cx}{tg:Expr}
end
end L2
namespace L2
theorem qO{α β:Type}{f:α->β->Sem (ForInStep β)}{g:β->α->β}:∀(l:List α) (b:β),(∀x∈l,∀b,f x b=pure (.yield (g b x)))->forIn l b f=pure (l.foldl g b)
 | [],b,_=>rfl
 | x::r,b,h=>by
  rw[List.forIn_cons,h x Rt b,pure_bind];exact qO r (g b x) λy a=>h y (Hx _ a)
noncomputable def Ir (cells:List (Str×Addr))(cs:List (Str×Addr))(x:Str×NameKind):List (Str×Addr):=if x.2 == .free then (x.1,(cells.lookup x.1).getD 0)::cs else cs
noncomputable def clo (names:List (Str×NameKind))(cells:List (Str×Addr)):List (Str×Addr):=names.foldl (Ir cells) []
variable{env:Env}
theorem Wn{scope:Scope}(h:∀x∈scope.names,x.2=.free->∃c,env.cells.lookup x.1=some c):closureFor scope env=pure (clo scope.names env.cells):=by
 simp only[closureFor];unfold clo
 rw[qO (g:=Ir env.cells) scope.names [] (λx d b=>by
  obtain⟨n,k⟩:=x
  unfold Ir
  by_cases hk:k=.free
  ·subst hk
   obtain⟨c,e⟩:=h (n,.free) d rfl
   have a:env.cells.lookup n=some c:=e
   simp[cellOf,a]
  ·have hb:(k == NameKind.free)=false:=by simpa using hk
   simp[hb])]
 rfl
variable{x:Str}{c:Y0}
theorem qw{n:Str}{l:List (Str×Addr)}:List.lookup x ((n,c)::l)=if x=n then some c else List.lookup x l:=by
 by_cases h:x=n
 ·subst h;rw[if_pos rfl,List.lookup_cons_self]
 ·rw[if_neg h,Ro];have:(x == n)=false:=by simpa using h
  rw[this]
theorem rO{cells:List (Str×Addr)}:∀(names:List (Str×NameKind)) (cs:List (Str×Addr)),(∀x∈names,x.2=.free->∃c,cells.lookup x.1=some c)->(∀x c,cs.lookup x=some c->cells.lookup x=some c) ->
  ∀x c,(names.foldl (Ir cells) cs).lookup x=some c->cells.lookup x=some c
 | [],cs,_,h0=>h0
 | (n,k)::r,cs,h,h0=>by
  refine rO r _ (λy b=>h y (Hx _ b)) λx c e=>?_;unfold Ir at e;by_cases hk:k=.free
  ·subst hk;obtain⟨c',a⟩:=h (n,.free) Rt rfl;simp only[beq_self_eq_true,N_]at e;rw[qw]at e;have a:cells.lookup n=some c':=a;by_cases hx:x=n
   ·subst hx;rw[if_pos rfl,a]at e;rw[a];exact e
   ·rw[if_neg hx]at e;exact h0 x c e
  ·have hb:(k == NameKind.free)=false:=by simpa using hk
   simp only[hb,Yk,Pg]at e;exact h0 x c e
theorem lD{cells:List (Str×Addr)}:∀(names:List (Str×NameKind)) (cs:List (Str×Addr)) (x:Str),((x,NameKind.free)∈names\/∃c,cs.lookup x=some c)->∃c,(names.foldl (Ir cells) cs).lookup x=some c
 | [],cs,x,h=>by
  rcases h with h | h
  ·cases h
  ·exact h
 | (n,k)::r,cs,x,h=>by
  refine lD r _ x ?_;unfold Ir;by_cases hk:k=.free
  ·subst hk;simp only[beq_self_eq_true,N_];rw[qw];by_cases hx:x=n
   ·exact .inr ⟨_,if_pos hx⟩
   ·rw[if_neg hx];rcases h with h | h
    ·rcases Cy.mp h with h | h
     ·exact absurd (congrArg Prod.fst h) hx
     ·exact .inl h
    ·exact .inr h
  ·have hb:(k == NameKind.free)=false:=by simpa using hk
   simp only[hb,Yk,Pg];rcases h with h | h
   ·rcases Cy.mp h with h | h
    ·exact absurd (congrArg Prod.snd h).symm hk
    ·exact .inl h
   ·exact .inr h
structure BZ (N:W0) (osc sc:Scope) (Nc:W0) (mp:W8):Prop where
 kind:sc.kind=.function
 nocell:∀y∈sc.names,y.2≠.cell
 names:∀y∈sc.names,y.2=.local->sc.names.lookup y.1=some .local
 free:∀y∈sc.names,y.2=.free->osc.names.lookup y.1=some .cell\/osc.names.lookup y.1=some .free
 len:mp.length=Nc.length
 map:∀(i j:Nat),mp[i]?=some (some j)->∃x,Nc[i]?=some x/\N[j]?=some x/\sc.names.lookup x=some .free
noncomputable def Nb (N:W0)(osc sc:Scope)(Nc:W0)(mp:W8):Bool :=
 decide (sc.kind=.function) && sc.names.all (λy=>!decide (y.2=.cell) && (!decide (y.2=.local) || decide (sc.names.lookup y.1=some .local)) &&
  (!decide (y.2=.free) || decide (osc.names.lookup y.1=some .cell) || decide (osc.names.lookup y.1=some .free))) &&
 decide (mp.length=Nc.length) && (List.range mp.length).all λi=>match mp[i]? with
  | some (some j)=>match Nc[i]? with
   | some x=>decide (N[j]?=some x) && decide (sc.names.lookup x=some .free)
   | none=>false
  | _=>true
variable{sc:Scope}{mp:W8}
theorem BZ.of{N:W0}{osc:Scope}{Nc:W0}(h:Nb N osc sc Nc mp=true):BZ N osc sc Nc mp:=by
 unfold Nb at h;simp only[Gk,K_,J1,YS,Bool.not_eq_true',decide_eq_false_iff_not]at h;obtain⟨⟨⟨h1,h2⟩,c⟩,b⟩:=h;refine⟨h1,λy a=>(h2 y a).1.1,λy a e=>?_,λy a e=>?_,c,λi j e=>?_⟩
 ·rcases (h2 y a).1.2 with q | q
  ·exact absurd e q
  ·exact q
 ·rcases (h2 y a).2 with (q | q) | q
  ·exact absurd e q
  ·exact .inl q
  ·exact .inr q
 ·have hi:i<mp.length:=(Fb.mp e).1;have q:=b i (Fq.mpr hi);rw[e]at q;cases hx:Nc[i]? with
  | none=>rw[hx]at q;simp at q
  | some x =>
   rw[hx]at q;simp only[Gk,K_]at q;exact⟨x,U,q.1,q.2⟩
theorem qx{f:Str×NameKind->Str×NameKind}(h1:∀p,(f p).1=p.1)(h2:∀p,p.2=.free->(f p).2=.cell\/(f p).2=.free):∀{names:List (Str×NameKind)}{x:Str},names.lookup x=some .free->(names.map f).lookup x=some .cell\/(names.map f).lookup x=some .free
 | [],_,h=>by simp at h
 | (n,k)::r,x,h=>by
  have l:=@qx f h1 h2 r x;rw[Ls];have d:=h1 (n,k);have i:=h2 (n,k);generalize f (n,k)=z at d i;obtain⟨g,c⟩:=z;have a:g=n:=d;subst a;cases hx:x == g with
  | true =>
   rw[Ro,hx]at h;have j:k=.free:=by simpa using h
   rw[Ro,hx];rcases i j with e | e
   ·have b:c=.cell:=e;subst b;exact .inl rfl
   ·have b:c=.free:=e;subst b;exact .inr rfl
  | false =>
   rw[Ro,hx]at h;rw[Ro,hx];exact l h
variable{names:List (Str×NameKind)}
theorem zc(h:names.lookup x=some .free):
  (names.map λ(n,k)=>if (k == NameKind.free && env.scope.kind == .function && env.kindOf n == some .cell) then (n,NameKind.cell) else (n,k)).lookup x=some .cell \/
  (names.map λ(n,k)=>if (k == NameKind.free && env.scope.kind == .function && env.kindOf n == some .cell) then (n,NameKind.cell) else (n,k)).lookup x=some .free:=by
 refine qx (λp=>?_) (λp hp=>?_) h
 ·obtain⟨n,k⟩:=p;dsimp only;split<;>rfl
 ·obtain⟨n,k⟩:=p;dsimp only;split
  ·exact .inl rfl
  ·exact .inr hp
theorem qe{k':NameKind}(hc:∀y∈names,y.2≠.cell)(hk:k'=.cell\/k'=.free)
  (h:(names.map λ(n,k)=>if (k == NameKind.free && env.scope.kind == .function && env.kindOf n == some .cell) then (n,NameKind.cell) else (n,k)).lookup x=some k'):(x,NameKind.free)∈names:=by
 have m:=Oh h;obtain⟨⟨n,k⟩,a,e⟩:=Hu.mp m;dsimp only at e;by_cases hf:k=.free
 ·subst hf;have b:n=x:=by
   by_cases hc':(NameKind.free == NameKind.free && env.scope.kind == .function && env.kindOf n == some .cell)=true
   ·rw[if_pos hc']at e;exact congrArg Prod.fst e
   ·rw[if_neg hc']at e;exact congrArg Prod.fst e
  exact b ▸ a
 ·have hb:(k == NameKind.free)=false:=by simpa using hf
  simp only[hb,Bool.false_and,Yk,Pg]at e;cases e;rcases hk with z | z
  ·exact absurd z (hc _ a)
  ·exact absurd z hf
noncomputable def Aw (X:Cx)(scope:Scope)(Nc:W0)(ex:U3)(pins:U1)(s:U7)(H:Hp):Cx where
 prog:=X.prog
 w:=X.w
 K:=X.K
 mg:=X.mg
 base:=X.base
 A:=X.A
 N:=Nc
 s₀:=s
 H₀:=H
 env:=compEnvC scope (clo scope.names X.env.cells) s.heap.objs.size X.env
 outer:=X.stack
 stack:=X.stack
 ex:=ex
 fn:=λ_=>false
 calm:=X.calm
 pn:=X.pn++pins
 xe:=λ_ _=>False
noncomputable def sub (mp:W8)(σ:St):St:=mp.map λo=>match o with | some j=>(σ[j]?).join | none=>none
theorem X1p{σ:St}{i:Nat}{v:V}(h:(sub mp σ)[i]?=some (some v)):∃j,mp[i]?=some (some j)/\σ[j]?=some (some v):=by
 unfold sub at h;rw[Dw]at h;cases e:mp[i]? with
 | none=>rw[e]at h;cases h
 | some o =>
  rw[e]at h;cases o with
  | none=>cases h
  | some j =>
   refine⟨j,U,?_⟩;have h':(σ[j]?).join=some v:=Option.some.inj h;cases q:σ[j]? with
   | none=>rw[q]at h';cases h'
   | some z=>rw[q]at h';exact congrArg some h'
section
variable {X:Cx}{pins:U1}{σ:St}{H:Hp}{s:U7}{scope:Scope}{Nc:W0}{mp:W8}{fp:U3}
theorem Us(I:Inv X pins σ H s)(S:BZ X.N X.env.scope scope Nc mp):∀x∈scope.names,x.2=.free->∃c,X.env.cells.lookup x.1=some c:=λx a e =>
 I.ok.has x.1 (S.free x a e)
theorem Nq(I:Inv X pins σ H s)(S:BZ X.N X.env.scope scope Nc mp)(h:(clo scope.names X.env.cells).lookup x=some c):X.env.cells.lookup x=some c :=
 rO scope.names [] (Us I S) (λ_ _ e=>by cases e) x c h
theorem X8p(I:Inv X pins σ H s)(S:BZ X.N X.env.scope scope Nc mp)(hf:∀b∈fp,Dj X pins H b)(hl:∀b∈fp,b<s.heap.objs.size):(Aw X scope Nc fp pins s H).Ok where
 mod:=I.ok.mod
 kind:=S.kind
 glob:=I.ok.glob
 blt:=I.ok.blt
 above:=Bj _
 inj:=λx y c a f=>I.ok.inj x y c (Nq I S a) (Nq I S f)
 has:=λx h=>by
  have d:(x,NameKind.free)∈scope.names:=by
   rcases h with h | h
   ·exact qe S.nocell (.inl rfl) h
   ·exact qe S.nocell (.inr rfl) h
  exact lD scope.names [] x (.inl d)
 cab:=λx c h _=>by cases h
 hd:=I.ok.hd
 frames:=I.ok.frames
 stk:=.inl rfl
 exf:=λb hb=>⟨Cw (hl b hb),λx c e=>(hf b hb).2.2.2.2.1 x c (Nq I S e)⟩
 bs:=I.bs
 bsz:=Cv I.ok.bsz I.sz
 noex:=λb o e hb=>by
  rcases (hf b hb).2.2.2.1 with z | z
  ·exact I.ok.noex b o e z
  ·exact absurd (GC (Bv e) (Cv I.ok.bsz z)) (M_ _)
 exfs:=λb hb z=>by
  rcases Cy.mp (I.stkSub b z) with e | e
  ·exact(hf b hb).2.1 e
  ·exact(hf b hb).2.2.1 e
 funs:=I.stack
 frf:=I.stkFree
theorem uW(I:Inv X pins σ H s)(S:BZ X.N X.env.scope scope Nc mp)(hf:∀b∈fp,Dj X pins H b)(hl:∀b∈fp,b<s.heap.objs.size){h₁:Heap}{m:U4}{tk:Nat}
  (hn:h₁.Ns s.heap.objs.size m) (k:∀b o,s.heap.get? b=some o->h₁.get? b=some o):Inv (Aw X scope Nc fp pins s H) [] (sub mp σ) H {s with heap:=h₁,toks:=tk}:=by
 refine⟨X8p I S hf hl,U,I.bare,Un.kept k,⟨m,hn,λi x v M K _=>?_⟩,λx c e=>?_,I.hok.fresh (Bj _),λx c e=>I.freeC x c (Nq I S e),λp hp=>?_,I.hok.kept k,?_⟩
 ·obtain⟨j,L,F⟩:=X1p K;obtain⟨y,B,E,D⟩:=S.map i j L;have f:Nc[i]?=some x:=M;rw[f]at B;cases B;have r:=Oh D;have A:Xd X.env.scope x:=.inr (S.free _ r rfl);obtain⟨Q,_,a⟩:=I.loc;obtain⟨u,P,O⟩:=a j x v E F A;refine⟨u,P,.inr ⟨zc D,?_⟩⟩;obtain⟨c,C⟩:=lD (cells:=X.env.cells) scope.names [] x (.inl r);have w:=Nq I S C;rcases O with ⟨z,_⟩ | ⟨_,c',z,q⟩
  ·rcases S.free _ r rfl with z' | z'<;>(have l:X.env.scope.names.lookup x=some .local:=z;rw[l]at z';cases z')
  ·rw[w]at z;cases z;obtain⟨o,h,g⟩:=q;exact⟨c,C,o,k c o h,g⟩
 ·obtain⟨v,o,h,g⟩:=I.cell x c (Nq I S e);exact⟨v,o,k c o h,g⟩
 ·have t:p∈X.pn++pins:=by
   have:p∈(X.pn++pins)++[]:=hp;simpa using this
  obtain⟨e,n,J,G,d⟩:=I.pin p t;refine⟨k _ _ e,n,Cw (Bv e),λz=>?_,d⟩;rcases Cy.mp (I.stkSub p.1 z) with q | q
  ·exact J q
  ·exact G q
 ·show (sub mp σ).length=Nc.length;unfold sub;rw[BJ];exact S.len
theorem wU(I:Inv X pins σ H s)(hf:∀b∈fp,Dj X pins H b){σ':St}{H':Hp}{s':U7}{pl:U1}(J:Inv (Aw X scope Nc fp pins s H) pl σ' H' s'):Inv X pins σ H' s' :=
 I.call' J.os J.base J.hok J.bare λb hb=>⟨(hf b hb).2.2.2.1,(hf b hb).2.1,(hf b hb).2.2.2.2.1,(hf b hb).2.2.2.2.2⟩
theorem Inv.turnedNew(I:Inv X pins σ H s){C:Y0}{h':Heap}{t':Nat}(k:∀b o,b≠C->s.heap.get? b=some o->h'.get? b=some o)(hn:H C=none)(h1:X.s₀.heap.objs.size<=C)
  (hL:C≠X.env.locals) (hc:∀x c,X.env.cells.lookup x=some c->c≠C) (hp:∀p∈X.pn++pins,p.1≠C):Inv X pins σ H {s with heap:=h',toks:=t'} :=
 I.turned k hn hL (.inr h1) hc hp
end
section
variable {M:Model}{A:W7}{E:U2}
abbrev Calm:Value->Shared->Prop:=λ_ _=>False
theorem DY{α β:Type}{m:Sem α}{f:α->Sem β}{P:α->Shared->Prop}{Q:β->Shared->Prop}{s:U7}(h:wpAny M A m P Calm s)(k:∀x s',P x s'->wpAny M A (f x) Q E s'):wpAny M A (m >>= f) Q E s :=
 Bm (Ep h k λ_ _ z=>z.elim)
end
theorem zU{prog:U8}{w:W1}{A:W7}{R:Result->Shared->Prop}{s:U7}{e t i:Expr}{pos:Pos}{it acc:W2}(J:Nat->Shared->Prop)
  (turn:∀n s,J n s->wpAny (model prog w) A (pyNext it) (λr a=>(r=none->R (.ok .next) a)/\∀v,r=some v ->
   wpAny (model prog w) A (letOwnedTupleGo t it v) (λ_ b=>wpAny (model prog w) A (assign t env v) (λ_ c=>wpAny (model prog w) A (eval e env) (λx f =>
    wpAny (model prog w) A (call (.builtin "list.append") [acc,x]) (λ_ d=>∃m,m<n/\J m d) Calm f) Calm c) Calm b) Calm a) Calm s)
  (n:Nat) (h:J n s):codeAny (model prog w) A (.compLoop (.ListComp e [⟨t,i,[],0⟩] sc pos) 0 it acc env) R s:=by
 have k:=compTurn_list1 e t i sc pos it acc env;refine codeAny_loop rfl J (λn s j=>wpAny_noted (m:=compTurn (.ListComp e [⟨t,i,[],0⟩] sc pos) 0 it acc env) ?_) n h;rw[k];refine Bm (Pk (DY (turn n s j) λr a q=>?_));match r,q with
 | none,q=>exact CW (q.1 rfl)
 | some v,q=>exact DY (q.2 v rfl) λ_ b o=>DY o λ_ c l=>Bm (DY l λx f g=>DY g λ_ d p=>CW (CW ⟨rfl,p⟩))
def Hq (J:It)(g:TG)(te:TE)(σ:St)(H:Hp)(acc:Y0)(Q:VK):Prop:=∃W:Nat->Nat->List V->St->Hp->Prop,(∃m,W 0 m [] σ (upd H acc (.lst []))) /\
 ∀i m ys σ2 H2,W i m ys σ2 H2->(J.stop i H2/\Q (.ref acc) H2)\/(J.go i H2/\∀x H3,J.yld i H2 x H3->g x σ2 H3 λσ4 H4=>te σ4 H4 λy H5 =>
  H5 acc=some (.lst ys)/\ys.length<sizeLine/\∃m',m'<m/\W (i+1) m' (ys++[y]) σ4 (upd H5 acc (.lst (ys++[y]))))
def oJ (mp:W8)(wi:TI)(g:TG)(te:TE):TE:=λσ H Q=>wi σ H λJ H1=>∀acc,H1 acc=none->Hq J g te (sub mp σ) H1 acc Q
section
variable {X:Cx}{elt tg iter:Expr}{scope:Scope}{pos:Pos}{wi:TI}{g:TG}{te:TE}{Nc:W0}{mp:W8}
noncomputable abbrev DX (s:U7):Shared:={s with heap:=s.heap.push { cls:=.type "list",dict:=none,data:=.seq ([]:U5).toArray}}
theorem wV(hc:X.calm=true)(S:BZ X.N X.env.scope scope Nc mp)(hg:∀ex pins s H,PG (Aw X scope Nc ex pins s H) tg g)(he:∀ex pins s H,PE (Aw X scope Nc ex pins s H) elt te)
  {pins:U1}{σ:St}{H2:Hp}{s2:U7}{E:U2}{it:Y0}{fp:U3}{tn:Nat->Heap->Prop}{J:It}{Q:VK}{RR:Value->Addr->Result->Shared->Prop}
  (I2:Inv X pins σ H2 s2) (T:Turn X.prog X.w X.K tg J fp it tn) (st2:tn 0 s2.heap) (f2:∀b∈fp,Dj X pins H2 b)
  (q:∀acc,H2 acc=none->Hq J g te (sub mp σ) H2 acc Q)
  (fin:∀acc C H' s' m',Q (.ref acc) H'->Inv X pins σ H' s'->s'.heap.Ns C m'->H' C=none->X.s₀.heap.objs.size<=C->C≠X.env.locals->(∀x c,X.env.cells.lookup x=some c->c≠C)->(∀p∈X.pn++pins,p.1≠C)->RR (.ref acc) C (.ok .next) s'):
  wpAny (model X.prog X.w) X.A (newList []) (λacc s₃=>wpAny (model X.prog X.w) X.A (newFunctionEnv scope X.env.globals (clo scope.names X.env.cells) [] X.env.qual none .none (some X.env)) (λt s₄ =>
   codeAny (model X.prog X.w) X.A (.compStart (.ListComp elt [⟨tg,iter,[],0⟩] scope pos) 0 (.ref it) acc {t with scope:=relabel scope X.env}) (RR acc t.locals) s₄) E s₃) E s2:=by
 refine P0 (wpAny_newFunctionEnv S.nocell (by intro y hy;simp at hy) (λh₁ l m=>?_) S.kind);dsimp only at l m ⊢;have I3:=I2.lnew (its:=[]) (ys:=[]) (t':=s2.toks) .nil (Dz _);have M:H2 s2.heap.objs.size=none:=I2.fresh;obtain⟨W,⟨m0,w0⟩,P⟩:=q s2.heap.objs.size M;have G:(s2.heap.push { cls:=.type "list",dict:=none,data:=.seq ([]:U5).toArray}).objs.size=s2.heap.objs.size+1:=Ij ..;have L:∀b∈fp,b<s2.heap.objs.size:=λb hb=>by
  obtain⟨o,e,_⟩:=T.obj _ _ st2 b hb;exact Bv e
 have D:∀b∈fp,Dj X pins (upd H2 s2.heap.objs.size (.lst [])) b:=λb hb=>⟨by rw[CK (Cw (L b hb))];exact(f2 b hb).1,(f2 b hb).2⟩;have a:Inv X pins σ (upd H2 s2.heap.objs.size (.lst [])) (DX s2):=I3;have a2:(DX s2).heap.objs.size=s2.heap.objs.size+1:=G;have j:∀b∈fp,b<(DX s2).heap.objs.size:=λb hb=>by rw[a2];exact Py (L b hb)
 have k3:∀b o,(DX s2).heap.get? b=some o->h₁.get? b=some o:=λb o e=>m.extBut b o (Cw (Bv e)) (Df _ e);have Ic:=uW (tk:=(DX s2).toks) a S D j l k3;have I:tn 0 h₁:=T.keep _ _ _ st2 λb hb o e=>k3 b o (Df _ e);have cC:X.s₀.heap.objs.size<=(DX s2).heap.objs.size:=a.sz;have cL:(DX s2).heap.objs.size≠X.env.locals:=Lr a.lt;have cc:∀x c,X.env.cells.lookup x=some c->c≠(DX s2).heap.objs.size:=λx c e=>by
  obtain⟨v,o,ho,_⟩:=a.cell x c e;exact Cw (Bv ho)
 have cp:∀p∈X.pn++pins,p.1≠(DX s2).heap.objs.size:=λp hp=>Cw (Bv (a.pin p hp).1);have h:∀{H':Hp},(∀b∈fp,H' b=none)->∀b∈fp,Dj (Aw X scope Nc fp pins (DX s2) (upd H2 s2.heap.objs.size (.lst []))) [] H' b:=λhn b hb =>
  ⟨hn b hb,Cw (j b hb),λz=>by
   rcases Cy.mp (a.stkSub b z) with e | e
   ·exact(D b hb).2.1 e
   ·exact(D b hb).2.2.1 e,.inl hb,λx c e=>(D b hb).2.2.2.2.1 x c (Nq a S e),λp hp=>(D b hb).2.2.2.2.2 p (by
    have:p∈(X.pn++pins)++[]:=hp
    simpa using this)⟩
 have k:∀s4:Shared,s4={ (DX s2) with heap:=h₁,toks:=(DX s2).toks} ->
   codeAny (model X.prog X.w) X.A (.compLoop (.ListComp elt [⟨tg,iter,[],0⟩] scope pos) 0 (.ref it) (.ref s2.heap.objs.size) (Aw X scope Nc fp pins (DX s2) (upd H2 s2.heap.objs.size (.lst []))).env)
    (RR (.ref s2.heap.objs.size) (DX s2).heap.objs.size) s4:=by
  rintro s4 rfl;refine zU (λn s'=>∃i ys σ' H',Inv (Aw X scope Nc fp pins (DX s2) (upd H2 s2.heap.objs.size (.lst []))) [] σ' H' s'/\tn i s'.heap/\(∀b∈fp,H' b=none)/\W i n ys σ' H') ?_ m0
   ⟨0,[],sub mp σ,_,Ic,I,λb hb=>(D b hb).1,w0⟩
  rintro n s5 ⟨i,ys,Y,V,I5,O,R,w5⟩;rcases P i n ys Y V w5 with ⟨stop,qn⟩ | ⟨go,step⟩
  ·refine Ep (T.done (Aw X scope Nc fp pins (DX s2) (upd H2 s2.heap.objs.size (.lst []))) rfl rfl rfl hc i [] s5 Y V (λ_ _=>False) I5 (h R) O stop) (λr s6 ⟨hr,I6⟩=>?_) λ_ _ f=>f.elim;subst hr;obtain⟨m6,a1,_⟩:=I6.loc;refine⟨λ_=>?_,λ_ z=>nomatch z⟩;exact fin _ _ V s6 m6 qn (wU a D I6) a1 I6.free cC cL cc cp
  ·refine Ep (T.item (Aw X scope Nc fp pins (DX s2) (upd H2 s2.heap.objs.size (.lst []))) rfl rfl rfl hc i [] s5 Y V (λ_ _=>False) I5 (h R) O go) (λr s6 ⟨u,hr,h6⟩=>?_) λ_ _ f=>f.elim;subst hr;refine⟨(λz=>by cases z),?_⟩;rintro _ ⟨⟩;refine Ep h6 (λ_ s7 ⟨x,H7,I7,r7,y7,F,a3⟩=>?_) λ_ _ f=>f.elim;have Z:=I7.pinned (h a3) (T.obj _ _ F);refine Ep (hg _ _ _ _ _ s7 Y H7 x u _ Z r7 (step x H7 y7)) (λ_ s8 ⟨σ8,H8,I8,q8⟩=>?_) λ_ _ f=>f.elim;refine Ep (he _ _ _ _ _ s8 σ8 H8 _ I8 q8) (λv s9 ⟨y,H9,I9,r9,a9,l9,m',a4,w9⟩=>?_) λ_ _ f=>f.elim;refine Ep (Qe (X:=Aw X scope Nc fp pins (DX s2) (upd H2 s2.heap.objs.size (.lst []))) _ s9 σ8 H9 (.ref s2.heap.objs.size) [y] (.ref s2.heap.objs.size) [v] (λz Hz=>z=.non/\Hz=upd H9 s2.heap.objs.size (.lst (ys++[y]))) I9 rfl (.cons r9 .nil) ⟨_,ys,y,U,U,a9,l9,U,U⟩) (λa7 a6 ⟨z,a5,B,_,_,a0⟩=>?_) λ_ _ f=>f.elim;subst a0;refine⟨m',a4,i+1,ys++[y],σ8,_,B.unpinned,T.keep _ _ _ F λb hb o e=>(B.pin (b,o) (Hy _ (Hy _ (Qh hb e)))).1,λb hb=>?_,w9⟩;obtain⟨o,e,d⟩:=T.obj _ _ F b hb;exact(B.pin (b,o) (Hy _ (Hy _ (Qh hb e)))).2.1
 exact o8 (k _ rfl) (T.self _ 0 _ _ _ I (k _ rfl))
theorem GD(hc:X.calm=true)(S:BZ X.N X.env.scope scope Nc mp)(hi:PI X tg iter wi)(hg:∀ex pins s H,PG (Aw X scope Nc ex pins s H) tg g)(he:∀ex pins s H,PE (Aw X scope Nc ex pins s H) elt te)
  (hf:∀x,foldedSetIterable iter X.env x=pure x:=by intro _;rfl):PE X (.ListComp elt [⟨tg,iter,[],0⟩] scope pos) (oJ mp wi g te):=by
 intro pins s σ H Q I h;rw[eval_ListComp];refine V6 (use:=none) rfl hf (Wn (Us I S)) S.kind S.names (BW (hi pins s σ H _ I h) λv p h1=>BW h1 λn r h2=>?_);obtain⟨it,fp,t,J,H2,e,m,T,a,f,q⟩:=h2;subst e;refine wV (RR:=λacc C=>compPost (model X.prog X.w) X.A X.xe none (EP X pins σ Q) acc C) hc S hg he m T a f q ?_;intro acc C H' s' i qq c j l c1 c2 c3 d;refine⟨i,j,λh' k=>⟨.ref acc,H',?_,U,qq⟩⟩;exact c.turnedNew (t':=s'.toks) (λb o hb e=>k.extBut b o hb e) l c1 c2 c3 d
theorem Wg{i:Nat}{pos' spos:Pos}(hc:X.calm=true)(hN:X.N.Nodup)(hi':X.N[i]?=some x)(hx:X.env.scope.names.lookup x=some .local)(S:BZ X.N X.env.scope scope Nc mp)(hi:PI X tg iter wi)
  (hg:∀ex pins s H,PG (Aw X scope Nc ex pins s H) tg g) (he:∀ex pins s H,PE (Aw X scope Nc ex pins s H) elt te)
  (hsw:swapsWith (.ListComp elt [⟨tg,iter,[],0⟩] scope pos) (some (.Name x pos')) spos.line X.env=pure true)
  (hf:∀x,foldedSetIterable iter X.env x=pure x:=by intro _;rfl):PS X (.Assign [.Name x pos'] (.ListComp elt [⟨tg,iter,[],0⟩] scope pos) spos) (Li (oJ mp wi g te) (Bf i)):=by
 intro pins s σ H D I h;rw[oR _ _ _ _ hsw];refine Bm (Pk (Bm ?_));show wpAny _ X.A (do let _ ← comprehension (.ListComp elt [⟨tg,iter,[],0⟩] scope pos) scope X.env _ (newList []) false (eval iter X.env) (some (assign (.Name x pos') X.env))) _ _ s
 refine Bm (Ep (V6 (use:=some (assign (.Name x pos') X.env)) (Q:=λ_ s'=>SP X pins D .next s') rfl hf (Wn (Us I S)) S.kind S.names
  (BW (hi pins s σ H _ I h) λv G h1=>BW h1 λF K h2=>?_)) (λ_ s' n=>CW (CW n)) λ_ _ e=>e)
 obtain⟨it,fp,L,J,H2,e,E,T,d,p,q⟩:=h2;subst e;refine wV (Q:=λx H1=>Bf i x σ H1 D.nx) (RR:=λacc C=>compPost (model X.prog X.w) X.A X.xe (some (assign (.Name x pos') X.env)) (λ_ s'=>SP X pins D .next s') acc C) hc S hg he E T d p q ?_;intro acc C H' s' r qq j t y c1 c2 c3 k;show wpAny _ X.A (assign (.Name x pos') X.env (.ref acc)) _ _ _;refine Yj (lY (v:=.ref acc) j hN hi' (.inl hx) rfl (λm B ⟨a,c,l⟩=>?_) (.inr hx));have f:C≠a:=by
  rcases l with z | z
  ·rw[z];exact c2
  ·exact Ne.symm (c3 x a z)
 refine⟨r,t.sameBut c f,λh' u=>⟨σ.set i (some (.ref acc)),H',?_,qq⟩⟩;exact B.turnedNew (t':=m.toks) (λb o hb e=>u.extBut b o hb e) y c1 c2 c3 k
end
variable{te:TE}{fr:St}{H1:Hp}{acc:Y0}{Q:VK}
theorem Ww{J:It}{n:Nat}{val:Nat->V}(Pv:Nat->List V->Hp->Prop)(hn:n<=sizeLine)(h0:Pv 0 [] (upd H1 acc (.lst [])))
  (hgo:∀i ys H,i<n->Pv i ys H->J.go i H/\∀x H',J.yld i H x H'->H'=H/\x=val i) (hst:∀ys H,Pv n ys H->J.stop n H)
  (hs:∀i ys H (N:V->Hp->Prop),i<n->ys.length=i->Pv i ys H->(∀y a,a acc=some (.lst ys)->Pv (i+1) (ys++[y]) (upd a acc (.lst (ys++[y])))->N y a)->te (some (val i)::fr) H N)
  (hd:∀ys H,ys.length=n->Pv n ys H->Q (.ref acc) H):
  Hq (J) (Bf 0) te (none::fr) H1 acc Q:=by
 refine⟨λi m ys d H2=>m=n-i/\i<=n/\ys.length=i/\(∃v,d=v::fr)/\Pv i ys H2,⟨n,by simp,Dz _,U,⟨_,U⟩,h0⟩,?_⟩;rintro i m ys d H2 ⟨rfl,hi,c,⟨v,rfl⟩,p⟩;by_cases hlt:i<n
 ·obtain⟨go,k⟩:=hgo i ys H2 hlt p;refine .inr ⟨go,λx b j=>?_⟩;obtain⟨g,f⟩:=k x b j;subst g f;show te ((v::fr).set 0 (some (val i))) b _;rw[List.set_cons_zero];refine hs i ys b _ hlt c p λy a l h=>⟨l,by omega,n-(i+1),by omega,U,hlt,by rw[G3,c];rfl,⟨_,U⟩,h⟩
 ·have e:i=n:=by omega
  subst e;exact .inl ⟨hst ys H2 p,hd ys H2 c p⟩
theorem Ut{lo:Int}{n:Nat}(Pv:Nat->List V->Hp->Prop)(hn:n<=sizeLine)(h0:Pv 0 [] (upd H1 acc (.lst [])))
  (hs:∀i ys H (N:V->Hp->Prop),i<n->ys.length=i->Pv i ys H->(∀y H5,H5 acc=some (.lst ys)->Pv (i+1) (ys++[y]) (upd H5 acc (.lst (ys++[y])))->N y H5)->te (some (.int (lo+i))::fr) H N)
  (hd:∀ys H,ys.length=n->Pv n ys H->Q (.ref acc) H):
  Hq (GJ lo n) (Bf 0) te (none::fr) H1 acc Q :=
 Ww (J:=GJ lo n) (val:=λi=>.int (lo+i)) Pv hn h0 (λi ys H hi p=>⟨hi,λx H' y=>y⟩) (λys H p=>Bj _) hs hd
theorem QT{K:U0}{a:Y0}{xs:List V}(Pv:Nat->List V->Hp->Prop)(hn:xs.length<=sizeLine)(h0:Pv 0 [] (upd H1 acc (.lst [])))
  (hl:∀i ys H,Pv i ys H->Af K H a xs)
  (hs:∀i x ys H (N:V->Hp->Prop),xs[i]?=some x->ys.length=i->Pv i ys H->(∀y H5,H5 acc=some (.lst ys)->Pv (i+1) (ys++[y]) (upd H5 acc (.lst (ys++[y])))->N y H5)->te (some x::fr) H N)
  (hd:∀ys H,ys.length=xs.length->Pv xs.length ys H->Q (.ref acc) H):
  Hq (J9 K a) (Bf 0) te (none::fr) H1 acc Q :=
 Ww (J:=J9 K a) (n:=xs.length) (val:=λi=>xs.getD i .non) Pv hn h0
  (λi ys H hi p=>⟨⟨xs,xs[i],hl i ys H p,by simp[hi]⟩,λx H' y=>⟨y.1,by
   have:=y.2 xs (hl i ys H p)
   rw[Kq,this];rfl⟩⟩)
  (λys H p=>⟨xs,hl _ ys H p,Bj _⟩)
  (λi ys H N hi b p k=>by
   have e:xs[i]?=some (xs.getD i .non):=by rw[Kq,Gp hi];rfl
   exact hs i _ ys H N e b p k) hd
end L2
namespace L2
structure Ag (P:U8) (w:W1) (K:U0) (mg:U4) (base:Heap) (k:Nat) (x:Str) (ps:W0) (sp:Sp):Prop where
 ex:∃f fd,Cd P w K mg base GP k f fd ps sp/\Binds K fd ps []/\PySem.W.keepIn K (.ref f)=true/\mg x=some (.ref f)
variable{K:U0}{mg:U4}{base:Heap}{k:Nat}{x:Str}{ps:W0}
theorem Ag.mono{P:U8}{w:W1}{j:Nat}{sp:Sp}(c:Ag P w K mg base j x ps sp)(h:j<=k):Ag P w K mg base k x ps sp :=
 let ⟨f,fd,F,b,kp,m⟩:=c.ex
 ⟨f,fd,F.mono h,b,kp,m⟩
section
variable {X:Cx}{k:Nat}{x:Str}{ps:W0}{sp:Sp}{p pos:Pos}{e:Expr}{es:List Expr}{t:TA}
theorem Av(c:Ag X.prog X.w X.K X.mg X.base k x ps sp)(hr:Bl k X.A)(hg:Gl X x)(ha:PA X (e::es) t)(hdb:(x == ("__debug__":Str))=false:=by decide)
  (he:starEach (e::es) X.env=(false,eval e X.env)::starEach es X.env:=by rfl) (hpl:(backTo pos (starEach es X.env)).any (·.1)=false:=by rfl):PE X (.Call (.Name x p) (e::es) [] pos) (JN sp [] E0 t):=by
 obtain⟨f,fd,F,b,a,m⟩:=c.ex;exact tH F hr hg m a b .nil Ga ha hdb he hpl
end
structure Aa (K:U0) (x:Str) (st:Stmt) (dV:W2):Prop where
 ex:∃(f:Y0) (oc:W2) (od:W5) (kV doc pm:W2) (an:W5) (cdv ct:W2) (osl:W4),
  K.lookup f=some ⟨oc,od,.func (PySem.W.fnOf x x (Cr st) (Cj st) (Bh st) dV kV doc pm an cdv ct),osl⟩/\PySem.W.codeIn K cdv x=true/\PySem.W.keepIn K (.ref f)=true/\PySem.W.nsIn K mainGlobals x=some (some (.ref f))
theorem yw{st:Stmt}{f:Y0}{oc:W2}{od an:W5}{osl:W4}{dV kV doc pm cdv ct:W2}(a:PySem.W.nsIn K mainGlobals x=some (some (.ref f)))
  (l:K.lookup f=some ⟨oc,od,.func (PySem.W.fnOf x x (Cr st) (Cj st) (Bh st) dV kV doc pm an cdv ct),osl⟩) (c:PySem.W.codeIn K cdv x=true) (k:PySem.W.keepIn K (.ref f)=true):Aa K x st dV :=
 ⟨f,oc,od,kV,doc,pm,an,cdv,ct,osl,l,c,k,a⟩
def J4 (K:U0)(x:Str)(st:Stmt)(dV:W2)(ps:W0):Prop:=∀(kV doc pm:W2) (an:W5) (cdv ct:W2),Binds K (PySem.W.fnOf x x (Cr st) (Cj st) (Bh st) dV kV doc pm an cdv ct) ps []
theorem Ef{st:Stmt}
  (h:∀(kV a c:W2) (d:W5) (b ct:W2) (us:U5),us.length=ps.length->bindArgs (PySem.W.fnOf x x (Cr st) (Cj st) (Bh st) .none kV a c d b ct) ⟨us,[]⟩=pure (ps.zip us)):J4 K x st .none ps :=
 λkV a c d b ct=>.all (h kV a c d b ct)
theorem jx{nm:Str}{st:Stmt}(h:∀(kV a c:W2) (d:W5) (b ct:W2),bindArgs (PySem.W.fnOf nm nm (Cr st) (Cj st) (Bh st) .none kV a c d b ct) ⟨[],[]⟩=pure []):J4 K nm st .none []:=Ef λkV a c d b ct us e=>by
 cases us with
 | nil=>exact h kV a c d b ct
 | cons=>cases e
variable{x0:Str}
theorem jw{nm:Str}{st:Stmt}(h:∀(kV a c:W2) (d:W5) (b ct:W2) (a0:W2),bindArgs (PySem.W.fnOf nm nm (Cr st) (Cj st) (Bh st) .none kV a c d b ct) ⟨[a0],[]⟩=pure [(x0,a0)]):J4 K nm st .none [x0]:=Ef λkV a c d b ct us e=>by
 cases us with
 | nil=>cases e
 | cons b0 t0 =>
  cases t0 with
  | nil=>exact h kV a c d b ct b0
  | cons=>cases e
theorem ju{nm:Str}{st:Stmt}{x1:Str}(h:∀(kV a d:W2) (e:W5) (b ct:W2) (a0 a1:W2),bindArgs (PySem.W.fnOf nm nm (Cr st) (Cj st) (Bh st) .none kV a d e b ct) ⟨[a0,a1],[]⟩=pure [(x0,a0),(x1,a1)]):J4 K nm st .none [x0,x1]:=Ef λkV a d e b ct us c=>by
 cases us with
 | nil=>cases c
 | cons b0 t0 =>
  cases t0 with
  | nil=>cases c
  | cons b1 t1 =>
   cases t1 with
   | nil=>exact h kV a d e b ct b0 b1
   | cons=>cases c
theorem jt{nm:Str}{st:Stmt}{x1 x2:Str}(h:∀(kV a d:W2) (e:W5) (b ct:W2) (a0 a1 a2:W2),bindArgs (PySem.W.fnOf nm nm (Cr st) (Cj st) (Bh st) .none kV a d e b ct) ⟨[a0,a1,a2],[]⟩=pure [(x0,a0),(x1,a1),(x2,a2)]):J4 K nm st .none [x0,x1,x2]:=Ef λkV a d e b ct us c=>by
 cases us with
 | nil=>cases c
 | cons b0 t0 =>
  cases t0 with
  | nil=>cases c
  | cons b1 t1 =>
   cases t1 with
   | nil=>cases c
   | cons b2 t2 =>
    cases t2 with
    | nil=>exact h kV a d e b ct b0 b1 b2
    | cons=>cases c
theorem jr{nm:Str}{st:Stmt}{x1 x2 x3:Str}(h:∀(kV a d:W2) (e:W5) (b ct:W2) (a0 a1 a2 a3:W2),bindArgs (PySem.W.fnOf nm nm (Cr st) (Cj st) (Bh st) .none kV a d e b ct) ⟨[a0,a1,a2,a3],[]⟩=pure [(x0,a0),(x1,a1),(x2,a2),(x3,a3)]):J4 K nm st .none [x0,x1,x2,x3]:=Ef λkV a d e b ct us c=>by
 cases us with
 | nil=>cases c
 | cons b0 t0 =>
  cases t0 with
  | nil=>cases c
  | cons b1 t1 =>
   cases t1 with
   | nil=>cases c
   | cons b2 t2 =>
    cases t2 with
    | nil=>cases c
    | cons b3 t3 =>
     cases t3 with
     | nil=>exact h kV a d e b ct b0 b1 b2 b3
     | cons=>cases c
theorem jq{nm:Str}{st:Stmt}{x1 x2 x3 x4:Str}(h:∀(kV a d:W2) (e:W5) (b ct:W2) (a0 a1 a2 a3 a4:W2),bindArgs (PySem.W.fnOf nm nm (Cr st) (Cj st) (Bh st) .none kV a d e b ct) ⟨[a0,a1,a2,a3,a4],[]⟩=pure [(x0,a0),(x1,a1),(x2,a2),(x3,a3),(x4,a4)]):J4 K nm st .none [x0,x1,x2,x3,x4]:=Ef λkV a d e b ct us c=>by
 cases us with
 | nil=>cases c
 | cons b0 t0 =>
  cases t0 with
  | nil=>cases c
  | cons b1 t1 =>
   cases t1 with
   | nil=>cases c
   | cons b2 t2 =>
    cases t2 with
    | nil=>cases c
    | cons b3 t3 =>
     cases t3 with
     | nil=>cases c
     | cons b4 t4 =>
      cases t4 with
      | nil=>exact h kV a d e b ct b0 b1 b2 b3 b4
      | cons=>cases c
section
variable {P:U8}{w:W1}{K:U0}{mg:U4}{base:Heap}
theorem fS{N P:W0}{sc:Scope}(a:sc.kind=.function:=by exact rfl)(b:sc.isCoroutine=false:=by exact rfl)(c:sc.isGenerator=false:=by exact rfl)(d:N.Nodup:=by decide +kernel)(e:N.take P.length=P:=by exact rfl)(f:∀x∈P,sc.names.lookup x=some .local\/sc.names.lookup x=some .cell:=by decide +kernel)(g:∀y∈sc.names,y.2≠.free:=by decide +kernel):Ar N P sc:=⟨a,b,c,d,e,f,g⟩
theorem Aa.cal{st:Stmt}{dV:W2}{sp:Sp}(F:Aa K x st dV){h:Heap}(X:K.In h)(G:Ng h mg)(N:W0)
  (hbody:∀{f:Y0}{a:W2}{A:W7}{outer:List Env}{s:U7},N.Nodup->∀(H:Hp) (vs:List V) (Q:VK) (E:XK),Bl k (A.deeper (envOfC x (Bh st) s.heap.objs.size f a))->sp vs H Q E ->
   ∃t,GF (Fi GP P w K mg base N x (Bh st) f a A outer s H E).nox (Cj st) t/\t { nx:=λ_ H'=>Q .non H',rt:=Q} (start N vs) H)(S:Ar N ps (Bh st):=by exact fS) (bi:J4 K x st dV ps:=by first | exact jw λ_ _ _ _ _ _ _=>rfl | exact ju λ_ _ _ _ _ _ _ _=>rfl | exact jt λ_ _ _ _ _ _ _ _ _=>rfl | exact jr λ_ _ _ _ _ _ _ _ _ _=>rfl | exact jq λ_ _ _ _ _ _ _ _ _ _ _=>rfl | exact jx λ_ _ _ _ _ _=>rfl) (len:∀vs H Q E,sp vs H Q E->vs.length=ps.length:=by intro _ _ _ _ h;repeat first | (obtain⟨rfl,_⟩:=h;rfl) | (obtain⟨⟨rfl,_⟩,_⟩:=h;rfl) | (obtain⟨_,h⟩:=h)):Ag P w K mg base (k+1) x ps sp:=by
 obtain⟨f,o,n,kV,b,i,l,a,ct,g,m,c,e,ns⟩:=F.ex;refine⟨f,_,Wu m c S len λA outer s H vs Q E j d=>?_,bi kV b i l a ct,e,Ii X G ns⟩;obtain⟨t,h,q⟩:=hbody S.nd H vs Q E j d;exact⟨t,h.nox,q⟩
end
variable{H:Hp}
theorem Bg{P:U8}{w:W1}{N:W0}{sc:Scope}{f:Y0}{cdv:W2}{A:W7}{outer:List Env}{s:U7}{E:XK}:(Fi GP P w K mg base N x sc f cdv A outer s H E).nox.K=K:=rfl
theorem Ax{p:Y0}(h:H p=none)(o:HO):Same H (upd H p o):=λb u q=>by rw[CK (JF q h)];exact q
theorem wR(K:U0):PySem.W.kitOne K (.type "int") (.type "int")=some true:=by unfold PySem.W.kitOne;rw[if_pos (by decide)]
theorem wQ(K:U0):PySem.W.kitOne K (.type "int") (.type "bool")=some false:=by with_unfolding_all rfl
variable{A B:Prop}
theorem G4{a b:Int}(h1:a=b->A)(h2:a≠b->B):if decide (V.int a=V.int b)=true then A else B:=by
 by_cases h:a=b
 ·subst h;rw[Jc rfl];exact DQ (h1 rfl)
 ·rw[FZ λe=>h (V.int.inj e)];exact Bc (h2 h)
theorem Ks{a b:Int}(h1:a≠b->A)(h2:a=b->B):if (!decide (V.int a=V.int b))=true then A else B:=by
 by_cases h:a=b
 ·subst h;rw[Jc rfl];exact Bc (h2 rfl)
 ·rw[FZ λe=>h (V.int.inj e)];exact DQ (h1 h)
theorem BX{p:Prop}[Decidable p](h1:p->A)(h2:¬ p->B):if decide p=true then A else B:=by
 by_cases h:p
 ·rw[Jc h];exact DQ (h1 h)
 ·rw[FZ h];exact Bc (h2 h)
theorem Js{c:Bool}(h1:c=false->A)(h2:c=true->B):if (!c)=true then A else B:=by
 cases c
 ·exact DQ (h1 rfl)
 ·exact Bc (h2 rfl)
def Xq (t u:TS):TS:=λD σ H=>∃Good:St->Hp->Prop,t {D with nx:=Good} σ H/\∀σ' H',Good σ' H'->u D σ' H'
theorem K4{X:Cx}{st:Stmt}{rest:W9}{t u:TS}(h1:PS X st t)(h2:GF X rest u):GF X (st::rest) (Xq t u):=by
 intro pins s σ H D I h;obtain⟨a,e,d⟩:=h;refine Yh (BW (h1 pins s σ H {D with nx:=a} I e) λf g q=>?_);cases f with
 | next =>
  obtain⟨b,H',c,q⟩:=q;exact h2 pins g b H' D c (d b H' q)
 | ret v=>exact q
 | brk=>exact q
 | cont=>exact q
theorem Et{H':Hp}{p:Y0}{o:HO}(h:Same H H')(hn:H p=none):Same H (upd H' p o):=λb u q=>by rw[CK (JF q hn)];exact h b u q
end L2
namespace Zo
open PySem.Sem (wp)
def Stop (h:Heap)(e:Y0):Prop:=∃o,h.get? e=some o/\o.cls=.type "StopIteration"
def Rest (S:U3)(h h':Heap):Prop:=∀c o,c∉S->h.get? c=some o->h'.get? c=some o
variable{S:U3}{h h1:Heap}
theorem Rest.trans{h2:Heap}(a:Rest S h h1)(b:Rest S h1 h2):Rest S h h2:=λc o n e=>b c o n (a c o n e)
theorem Rest.sub{T:U3}(a:Rest S h h1)(q:∀c,c∈S->c∈T):Rest T h h1:=λc o n e=>a c o (λz=>n (q c z)) e
theorem Rest.ext{b:Y0}(e:Heap.ExtBut b h h1)(q:b∈S):Rest S h h1:=λc o n x=>e c o (λz=>n (z ▸ q)) x
theorem Rest.but{b:Y0}(e:Heap.SameBut b h h1)(q:b∈S):Rest S h h1:=Rest.ext e.extBut q
theorem Rest.new(o:Obj):Rest S h (h.push o):=λc u n x=>Df _ x
def Hh (S:U3)(G:Heap->Prop):Prop:=∀h h',Rest S h h'->G h->G h'
def Told (it:Y0)(hp:Heap)(g:Array GenState)(d:Drawn)(tk:Nat)(os:OsState)(G:Heap->Prop)(ox:Option Value)(Q E:U2):Prop :=
 (∀x h',ox=some x->G h'->Heap.SameBut it hp h'->Q x ⟨h',g,d,tk,os⟩) /\
 (∀e h',ox=none->Heap.ExtBut it hp h'->Stop h' e->E (.ref e) ⟨h',g,d,tk,os⟩)
def Pull (prog:U8)(w:W1)(A:W7)(it:Y0)(G G':Heap->Prop)(ox:Option Value):Prop :=
 ∀{Q E:U2}{hp:Heap}{g:Array GenState}{d:Drawn}{tk:Nat}{os:OsState},G hp->Told it hp g d tk os G' ox Q E ->
  wpAny (model prog w) A (Builtin.SmallTypes.nextOf (.ref it)) Q E ⟨hp,g,d,tk,os⟩
section
variable {prog:U8}{w:W1}{A:W7}{E:U2}{hp:Heap}{g:Array GenState}{d:Drawn}{tk:Nat}{os:OsState}
variable{ox:Option Value}
theorem Pull.behind{it:Y0}{G G':Heap->Prop}(p:Pull prog w A it G G' ox)(hg:G hp){α:Type}{f:Value->Sem α}{k:Value->Sem Unit}{Q:α->Shared->Prop}
  (t:Told it hp g d tk os G' ox (λx s'=>wpAny (model prog w) A (f x) Q (λe a=>wpAny (model prog w) A (k e) (λ_ b=>E e b) E a) s') (λe a=>wpAny (model prog w) A (k e) (λ_ b=>E e b) E a)):
  wpAny (model prog w) A ((Builtin.SmallTypes.nextOf (.ref it) >>= f).onRaise k) Q E ⟨hp,g,d,tk,os⟩:=wpAny_onRaise (Bm (p hg t))
theorem freed{z I O e:Y0}{v:W2}(gz:IsZip h z I O v)(st:Stop h e)(k:∀h',Rest [z] h h'->Stop h' e->E (.ref e) ⟨h',g,d,tk,os⟩):
  wpAny (model prog w) A (setField (.ref z) 0 .none) (λ_ f=>E (.ref e) f) E ⟨h,g,d,tk,os⟩:=by
 obtain⟨o,a,b⟩:=st;have c:e≠z:=by
  rintro rfl;have q:=a.symm.trans gz;cases q;exact absurd (Value.type.inj b) (by decide)
 refine YQ gz rfl (by simp) (k _ (Rest.but (Heap.SameBut.update ..) (by simp)) ⟨o,(Heap.SameBut.update ..).extBut _ _ c a,b⟩)
theorem step{z I O i j:Y0}{oy:Option Value}{a b:W2}{G1 G1' G2 G2':Heap->Prop}{R:PySem.Fin->Shared->Prop}
  (gz:IsZip hp z I O .none) (gI:IsPair hp I (.ref i) (.ref j)) (gO:IsPair hp O a b) (ne:O≠z/\O≠i/\O≠j/\i≠z/\j≠z)
  (p1:Pull prog w A i G1 G1' ox) (p2:Pull prog w A j G2 G2' oy) (a1:G1 hp) (a2:G2 hp)
  (k1:Hh [z,O,j] G1) (k2:Hh [z,O,i] G2) (k3:Hh [z,O,j] G1') (k4:Hh [z,O,i] G2')
  (go:∀x y h',ox=some x->oy=some y->IsZip h' z I O (rawInt hp.objs.size)->IsPair h' O x y->IsPair h' hp.objs.size x y->G1' h'->G2' h'->Rest [z,O,i,j] hp h'->R (.done (.ret (.ref hp.objs.size))) ⟨h',g,d,tk,os⟩)
  (stop:∀e h',ox=none\/oy=none->Rest [z,O,i,j] hp h'->Stop h' e->E (.ref e) ⟨h',g,d,tk,os⟩):
  wpAny (model prog w) A (Builtin.«zip.__next__» ⟨[.ref z],[]⟩) R E ⟨hp,g,d,tk,os⟩:=by
 obtain⟨o,M,n3,D,L⟩:=ne;have U:(#[Value.none,.bool false,.bool false,.ref I,.ref O]:U9)[0]?=some .none:=rfl;have c2:(#[Value.none,.bool false,.bool false,.ref I,.ref O]:U9)[2]?=some (.bool false):=rfl;have c3:(#[Value.none,.bool false,.bool false,.ref I,.ref O]:U9)[3]?=some (.ref I):=rfl;have P:(#[Value.none,.bool false,.bool false,.ref I,.ref O]:U9)[4]?=some (.ref O):=rfl;have z0:0<(#[Value.none,.bool false,.bool false,.ref I,.ref O]:U9).size:=by simp
 wp_walk using Lp gz rfl c2,Lp gz rfl c3,Rk gI rfl,Lp gz rfl U,Lp gz rfl P,wpAny_setField_rec gz z0;intro h1 s B;have u:Rest [z] hp h1:=.but B (by simp);wp_walk;refine p1.behind (f:=λx=>pure (some x)) (k:=λ_=>setField (.ref z) 0 .none) (k1 _ _ (u.sub (by simp)) a1) ⟨λx h2 C Y h=>?_,λe h2 C h st=>?_⟩
 ·have K:IsPair h2 O a b:=h.extBut _ _ M (B.extBut _ _ o gO);wp_walk using Rk K rfl,wpAny_updateSeq_pair K;intro h3 X n;wp_walk using wpAny_letGo;have t:Rest [z,O,i] hp h3:=((u.sub (by simp)).trans (.but h (by simp))).trans (.but n (by simp));refine p2.behind (f:=λx=>pure (some x)) (k:=λ_=>setField (.ref z) 0 .none) (k2 _ _ t a2) ⟨λy G r V c=>?_,λe G r c st=>?_⟩
  ·have H:IsPair G O x b:=c.extBut _ _ n3 X;wp_walk using Rk H rfl,wpAny_updateSeq_pair H;intro h5 Q m;have p:IsPair h5 O x y:=Q;have W:Rest [z,O,i,j] hp h5:=((t.sub (by simp)).trans (.but c (by simp))).trans (.but m (by simp));have J:IsZip h5 z I O .ellipsis:=m.extBut _ _ o.symm (c.extBut _ _ L.symm (n.extBut _ _ o.symm (h.extBut _ _ D.symm s)));have sz:h5.objs.size=hp.objs.size:=(((m.1.trans c.1).trans n.1).trans h.1).trans B.1;have lt:z<h5.objs.size:=Bv J;have Z:IsZip (h5.push { cls:=.type "tuple",data:=.seq #[x,y].toList.toArray}) z I O .ellipsis:=Df _ J;wp_walk using wpAny_letGo,Rk p rfl;have N:=Yt (Obj.mapFields λv=>v.setIfInBounds 1 (Value.bool false)) (Yt (Obj.mapFields λv=>v.setIfInBounds 0 (rawInt h5.objs.size)) Z rfl) rfl;have F:Rest [z] (h5.push { cls:=.type "tuple",data:=.seq #[x,y].toList.toArray}) _:=(Rest.but (b:=z) (Heap.SameBut.update (f:=Obj.mapFields λv=>v.setIfInBounds 0 (rawInt h5.objs.size)) ..) (by simp)).trans (Rest.but (b:=z) (Heap.SameBut.update (f:=Obj.mapFields λv=>v.setIfInBounds 1 (Value.bool false)) ..) (by simp));have q:=(Rest.new _).trans F;have T8:=F h5.objs.size _ (by simp;exact Lr lt) (Ej _ rfl);simp only[<-sz]at go;exact go x y _ C r N (q _ _ (by simp[o]) p) T8 (k3 _ _ ((((Rest.but (S:=[z,O,j]) n (by simp)).trans (.but c (by simp))).trans (.but m (by simp))).trans (q.sub (T:=[z,O,j]) (by simp))) Y)
    (k4 _ _ ((Rest.but (S:=[z,O,i]) m (by simp)).trans (q.sub (T:=[z,O,i]) (by simp))) V) (W.trans (q.sub (T:=[z,O,i,j]) (by simp)))
  ·exact freed (c _ _ L.symm (n.extBut _ _ o.symm (h.extBut _ _ D.symm s))) st λh5 m l =>
    stop e h5 (.inr r) (((t.sub (by simp)).trans (.ext c (by simp))).trans (m.sub (by simp))) l
 ·exact freed (h _ _ D.symm s) st λh3 n l=>stop e h3 (.inl C) (((u.sub (by simp)).trans (.ext h (by simp))).trans (n.sub (by simp))) l
end
end Zo
namespace Zn
open PySem.Sem (wp)
section
variable {prog:U8}{w:W1}{A:W7}{E:U2}{hp:Heap}{g:Array GenState}{d:Drawn}{tk:Nat}{os:OsState}{it l:Y0}{i n:Nat}{its:U9}{oi ol:Obj}{R:PySem.Fin->Shared->Prop}
theorem Y7c(hh:its[i]?=none->A.handled=none)(gi:hp.get? it=some oi)(di:oi.data=.fields #[.ref l,.int i 0])(gl:hp.get? l=some ol)(dl:ol.data=.seq its n)
  (go:∀x,its[i]?=some x->R (.done (.ret x)) ⟨hp.update it (Obj.mapFields (·.setIfInBounds 1 (rawInt (i+1)))),g,d,tk,os⟩)
  (stop:∀h' e,its[i]?=none->Heap.ExtBut it hp h'->(∃o,h'.get? e=some o/\o.cls=.type "StopIteration")->E (.ref e) ⟨h',g,d,tk,os⟩):
  wpAny (model prog w) A (Builtin.«tuple_iterator.__next__» ⟨[.ref it],[]⟩) R E ⟨hp,g,d,tk,os⟩:=by
 have c:(#[Value.ref l,.int i 0]:U9)[0]?=some (.ref l):=rfl;have a:(#[Value.ref l,.int i 0]:U9)[1]?=some (.int i 0):=rfl;have f:0<(#[Value.ref l,.int i 0]:U9).size:=by simp
 have b:1<(#[Value.ref l,.int i 0]:U9).size:=by simp
 wp_walk using Lp gi di c,Lp gi di a,Rk gl dl;rw[J2];cases hx:its[i]? with
 | some x =>
  dsimp only;wp_walk using YQ gi di b;exact go x hx
 | none =>
  dsimp only;have h:=hh hx;wp_walk using YQ gi di f;exact wpAny_raiseNew_none h (stop _ _ hx (((Heap.SameBut.update ..).extBut.push _).push _) ⟨_,Ej _ rfl,U⟩)
end
end Zn
namespace Zp
open Zo
open PySem.Sem (wp)
def Dat (t:Bool)(h:Heap)(l:Y0)(xs:U9):Prop:=if t then h.IsTuple l xs else h.IsList l xs
def GJ (t:Bool)(h:Heap)(it l:Y0)(i:Nat):Prop:=if t then h.IsTupleIter it l i else h.IsListIter it l i
variable{t:Bool}{h h':Heap}{l:Y0}{xs:U9}
theorem Dat.at(d:Dat t h l xs)(e:∀o,h.get? l=some o->h'.get? l=some o):Dat t h' l xs:=by
 cases t<;>exact let ⟨o,q,r⟩:=d;⟨o,e o q,r⟩
variable{it:Y0}{i:Nat}
theorem GJ.at(d:GJ t h it l i)(e:∀o,h.get? it=some o->h'.get? it=some o):GJ t h' it l i:=by
 cases t<;>exact let ⟨o,q,r⟩:=d;⟨o,e o q,r⟩
theorem GJ.obj(d:GJ t h it l i):∃o,h.get? it=some o/\∀v,o.data≠.cell v:=by
 cases t<;>exact let ⟨o,e,_,q⟩:=d;⟨o,e,λv z=>by rw[q]at z;cases z⟩
theorem Dat.push(d:Dat t h l xs)(o:Obj):Dat t (h.push o) l xs:=d.at λ_ q=>Df _ q
def Stand (t:Bool)(it l:Y0)(k:Nat)(xs:U9)(h:Heap):Prop:=GJ t h it l k/\Dat t h l xs
theorem Stand.stays{k:Nat}{S:U3}(a:it∉S)(b:l∉S):Hh S (Stand t it l k xs):=λh h' r d=>⟨d.1.at λo q=>r _ o a q,d.2.at λo q=>r _ o b q⟩
section
variable {prog:U8}{w:W1}{A:W7}
variable{Q:Option Value->Shared->Prop}
theorem via{E:U2}{T id:String}{f:Builtin}{a:Y0}{s:U7}(sl:Slot T (Str.ofString "__next__") id)(en:entryFor table id=some f)(ar:argsOk id ⟨[.ref a],[]⟩)(ty:s.TypeIs (.ref a) T)
  (h:wpAny (model prog w) A.in1 (f ⟨[.ref a],[]⟩) (λr s'=>∃v,r=.done (.ret v)/\Q (some v) s') E s):wpAny (model prog w) A (callSpecial? (.ref a) (Str.ofString "__next__")) Q E s :=
 Y6 ty sl (Yg sl ty en h ar)
theorem pull{k:Nat}(hh:A.handled=none):Pull prog w A it (Stand t it l k xs) (Stand t it l (k+1) xs) xs[k]?:=by
 intro Q E hp g d tk os st td;have p:∀{h'},Heap.SameBut it hp h'->l≠it->Dat t h' l xs:=λr n=>st.2.at λo q=>r.extBut _ _ n q;cases t with
 | false =>
  obtain⟨a,b⟩:hp.IsListIter it l k/\hp.IsList l xs:=st;have n:l≠it:=by
   rintro rfl;obtain⟨o,q,_,r⟩:=a;obtain⟨o',h,_,_,j⟩:=b;rw[q]at h;cases h;rw[r]at j;cases j
  cases f:xs[k]? with
  | some x=>exact pA a b f λh' i r=>td.1 x h' f ⟨i,p r n⟩ r
  | none=>exact Yx hh a b f λh' e r s=>td.2 e h' f r s
 | true =>
  obtain⟨a,b⟩:hp.IsTupleIter it l k/\hp.IsTuple l xs:=st;have ty:(⟨hp,g,d,tk,os⟩:U7).TypeIs (.ref it) "tuple_iterator":=a.typeIs;obtain⟨o,q,c,r⟩:=a;obtain⟨o',h,c',m,j⟩:=b;have n:l≠it:=by rintro rfl;rw[q]at h;cases h;rw[r]at j;cases j
  unfold Builtin.SmallTypes.nextOf;refine Bm (via F.slot_tuple_iterator_next F.entry_tuple_iterator_next (F.args_tuple_iterator_next_1 _) ty (Zn.Y7c (λ_=>hh) q r h j (λx f=>⟨x,U,CW (td.1 x _ f ?_ (Heap.SameBut.update ..))⟩) λh' e f ex s=>td.2 e h' f ex s));refine⟨(⟨_,Yt _ q (Obj.isFreed_of_fields (Obj.data_mapFields r _)),(Obj.cls_mapFields ..).trans c,?_⟩:Heap.IsTupleIter _ it l (k+1)),p (Heap.SameBut.update ..) n⟩;rw[Obj.data_mapFields r];rfl
variable {E:U2}
theorem uY{t1 t2:Bool}{z I O i j m:Y0}{k1 k2:Nat}{ys:U9}{a b:W2}{s:U7}(hh:A.handled=none)(D:ZipApart z I O i j l m)
  (gz:IsZip s.heap z I O .none) (gI:IsPair s.heap I (.ref i) (.ref j)) (gO:IsPair s.heap O a b) (d1:Stand t1 i l k1 xs s.heap) (d2:Stand t2 j m k2 ys s.heap)
  (go:∀x y h',xs[k1]?=some x->ys[k2]?=some y->IsZip h' z I O (rawInt s.heap.objs.size)->IsPair h' O x y->IsPair h' s.heap.objs.size x y->Stand t1 i l (k1+1) xs h'->Stand t2 j m (k2+1) ys h' ->
   Rest [z,O,i,j] s.heap h'->Q (some (.ref s.heap.objs.size)) ⟨h',s.gens,s.drawn,s.toks,s.os⟩)
  (stop:∀h',xs[k1]?=none\/ys[k2]?=none->Rest [z,O,i,j] s.heap h'->Q none ⟨h',s.gens,s.drawn,s.toks,s.os⟩):wpAny (model prog w) A (pyNext (.ref z)) Q E s:=by
 obtain⟨hp,g,d,tk,os⟩:=s;unfold pyNext;refine Bm (wpAny_attempt (via F.slot_zip_next F.entry_zip_next (F.args_zip_next_1 _) ⟨_,gz,U⟩ (step gz gI gO ⟨D.TOz,D.TOi1,D.TOi2,D.i1z,D.i2z⟩ (pull (A:=A.in1) hh) (pull (A:=A.in1) hh) d1 d2 ?_ ?_ ?_ ?_ ?_ ?_)))
 ·exact Stand.stays (by simp[D.i1z,D.TOi1.symm,D.i12]) (by simp[D.l1z,D.l1TO,D.l1i2])
 ·exact Stand.stays (by simp[D.i2z,D.TOi2.symm,D.i12.symm]) (by simp[D.l2z,D.l2TO,D.l2i1])
 ·exact Stand.stays (by simp[D.i1z,D.TOi1.symm,D.i12]) (by simp[D.l1z,D.l1TO,D.l1i2])
 ·exact Stand.stays (by simp[D.i2z,D.TOi2.symm,D.i12.symm]) (by simp[D.l2z,D.l2TO,D.l2i1])
 ·exact λx y h' v t k B p u f h=>⟨_,U,CW (go x y h' v t k B p u f h)⟩
 ·rintro e h' n r ⟨o,q,c⟩;exact Bm (wpAny_isInstance (b:=true) ⟨o,q,c⟩ isSubtype_stop (CW (stop h' n r)))
end
noncomputable abbrev Fe (t:Bool)(l:Y0):Obj:={ cls:=.type (if t then "tuple_iterator" else "list_iterator"),data:=.fields #[.ref l,.int 0 0]}
theorem sH(e:h.get? it=some (Fe t l)):GJ t h it l 0:=by
 cases t<;>exact⟨_,e,U,U⟩
theorem Rz{o0 o1 o2 o3 o4:Obj}(f0:o0.isFreed=false)(f1:o1.isFreed=false)(f2:o2.isFreed=false)(f3:o3.isFreed=false)(f4:o4.isFreed=false){H:Heap}(e:H=((((h.push o0).push o1).push o2).push o3).push o4):
  H.get? h.objs.size=some o0/\H.get? (h.objs.size+1)=some o1/\H.get? (h.objs.size+2)=some o2/\H.get? (h.objs.size+3)=some o3/\H.get? (h.objs.size+4)=some o4/\∀c o,h.get? c=some o->H.get? c=some o:=by
 subst e;have w:∀{h:Heap}{a:Y0}{o o':Obj},h.get? a=some o->(h.push o').get? a=some o:=λq=>Df _ q;have d:(h.push o0).objs.size=h.objs.size+1:=Ij ..;have b:((h.push o0).push o1).objs.size=h.objs.size+2:=by rw[Ij,d]
 have f:(((h.push o0).push o1).push o2).objs.size=h.objs.size+3:=by rw[Ij,b]
 have g:((((h.push o0).push o1).push o2).push o3).objs.size=h.objs.size+4:=by rw[Ij,f]
 refine⟨w (w (w (w (Ej _ f0)))),?_,?_,?_,?_,λc o q=>w (w (w (w (w q))))⟩
 ·rw[<-d];exact w (w (w (Ej _ f1)))
 ·rw[<-b];exact w (w (Ej _ f2))
 ·rw[<-f];exact w (Ej _ f3)
 ·rw[<-g];exact Ej _ f4
structure New (t1 t2:Bool) (h h':Heap) (l m:Y0):Prop where
 z:IsZip h' (h.objs.size+4) (h.objs.size+2) (h.objs.size+3) .none
 I:IsPair h' (h.objs.size+2) (.ref h.objs.size) (.ref (h.objs.size+1))
 O:IsPair h' (h.objs.size+3) .none .none
 i:GJ t1 h' h.objs.size l 0
 j:GJ t2 h' (h.objs.size+1) m 0
 k:Rest [] h h'
section
variable {prog:U8}{w:W1}{A:W7}{E:U2}{s:U7}
theorem uV{Q:U2}(hl:Dat t s.heap l xs)(h:Q (.ref s.heap.objs.size) {s with heap:=s.heap.push (Fe t l)}):wpAny (model prog w) A (pyIter (.ref l)) Q E s:=by
 cases t
 ·exact Og (show s.heap.IsList l xs from hl) h
 ·exact Yn (show s.heap.IsTuple l xs from hl) h
theorem Y5a(t1 t2:Bool)(l m:Y0)(xs ys:U9):
  Meets (Builtin.«zip.__new__» ⟨[.type "zip",.ref l,.ref m],[]⟩) (λ_ R s=>Dat t1 s.heap l xs/\Dat t2 s.heap m ys /\
   ∀h',New t1 t2 s.heap h' l m->R (.ok (.ret (.ref (s.heap.objs.size+4)))) {s with heap:=h'}):=
 .of_wp λprog w A R s h=>by
  rcases s with ⟨hp,g,d,tk,os⟩;rcases h with ⟨b1,b2,h⟩;have b:=sub_zip;have f:Dat t1 (Shared.heap ⟨hp,g,d,tk,os⟩) l xs:=b1;have e:Dat t2 (Shared.heap ⟨hp.push (Fe t1 l),g,d,tk,os⟩) m ys:=b2.push _;wp_walk using uV f,uV e;have a:∀n1 n2 n3 n4,n1=hp.objs.size+1->n2=hp.objs.size+2->n3=hp.objs.size+3->n4=hp.objs.size+4 ->
    R (.ok (.ret (.ref n4))) ⟨((((hp.push (Fe t1 l)).push (Fe t2 m)).push { cls:=.type "tuple",data:=.seq #[.ref hp.objs.size,.ref n1]}).push { cls:=.type "tuple",data:=.seq #[.none,.none]}).push
     { cls:=.type "zip",data:=.fields #[.none,.bool false,.bool false,.ref n2,.ref n3]},g,d,tk,os⟩:=by
   rintro _ _ _ _ rfl rfl rfl rfl;obtain⟨n,j,k,i,p,r⟩:=Rz (h:=hp) (o0:=Fe t1 l) (o1:=Fe t2 m) (o2:={ cls:=.type "tuple",data:=.seq #[.ref hp.objs.size,.ref (hp.objs.size+1)]}) (o3:={ cls:=.type "tuple",data:=.seq #[.none,.none]})
    (o4:={ cls:=.type "zip",data:=.fields #[.none,.bool false,.bool false,.ref (hp.objs.size+2),.ref (hp.objs.size+3)]}) rfl rfl rfl rfl rfl rfl
   exact h _ ⟨p,k,i,sH n,sH j,λc o _ q=>r c o q⟩
  exact⟨_,U,a _ _ _ _ (by simp only[Ij]) (by simp only[Ij]) (by simp only[Ij]) (by simp only[Ij])⟩
theorem zq{t1 t2:Bool}{m:Y0}{ys:U9}{Q:U2}(b1:Dat t1 s.heap l xs)(b2:Dat t2 s.heap m ys)
  (k:∀h',New t1 t2 s.heap h' l m->Q (.ref (s.heap.objs.size+4)) {s with heap:=h'}):wpAny (model prog w) A (call (.type "zip") [.ref l,.ref m]) Q E s :=
 callType_new F.called_zip (by decide) (F.typeCall_zip_2 _ _) (F.newCall_zip_2 _ _) (λo=>F.args_object_init_3 o _ _) F.entry_zip_new (Y5a t1 t2 l m xs ys) ⟨b1,b2,λh' n=>⟨⟨_,n.z,U⟩,k h' n⟩⟩
end
end Zp
namespace L2
section
variable {X:Cx}{pins:U1}{σ:St}{H:Hp}{s:U7}{h':Heap}
theorem Inv.turnedL{t':Nat}{ch:U3}(I:Inv X pins σ H s)(k:∀b o,b∉ch->s.heap.get? b=some o->h'.get? b=some o)(hf:∀b∈ch,Dj X pins H b):Inv X pins σ H {s with heap:=h',toks:=t'}:=by
 have d:∀b u,H b=some u->b∉ch:=λb u e z=>by rw[(hf b z).1]at e;cases e
 refine I.step (g':=s.gens) (d':=s.drawn) (ch:=ch) (λb hb=>⟨(hf b hb).2.2.2.1,(hf b hb).2.1,(hf b hb).2.2.2.2.1,(hf b hb).2.2.2.2.2⟩) (λb o _ _ a e _=>k b o a e) (λb o _ _ a e _=>⟨o.slots,k b o a e⟩) (λ_ _ _ _ n=>n)
  (λb o a e=>⟨o,k b o a e⟩) (λ_ _ e=>e) (λ_ _ _ e=>e) (λb ps e=>⟨#[],by rw[e];simp⟩) (λm g=>?_) (λb u e=>?_) I.bare
 ·obtain⟨o,es,ep,f,r⟩:=g;exact⟨o,es,ep,k _ o (λz=>(hf _ z).2.1 rfl) f,r⟩
 ·refine(I.hok b u e).stay (λc v a q=>k c v ?_ q) (λ_ q=>q) λ_ _ q=>q;rcases a with z | z
  ·rw[z];exact d b u e
  ·exact d c _ z
theorem Inv.turnedT{t':Nat}{ch:U3}{T:Y0}{xs:List V}{its:U5}(I:Inv X pins σ H s)(k:∀b o,b∉ch->s.heap.get? b=some o->h'.get? b=some o)(hf:∀b∈ch,Dj X pins H b)(hT:s.heap.objs.size<=T)(hv:Vals xs its)(hz:xs.length<=sizeLine)(ht:IsTup h' T its.toArray):
  Inv X pins σ (upd H T (.tup xs)) {s with heap:=h',toks:=t'}:=by
 have f:∀b u,H b=some u->b∉ch:=λb u e z=>by rw[(hf b z).1]at e;cases e
 have g:H T=none:=I.hok.fresh hT;have h:∀b o,s.heap.get? b=some o->b≠T:=λb o e=>Cw (GC (Bv e) hT);have a:∀b u,H b=some u->b≠T:=λb u e z=>by rw[z,g]at e;cases e
 refine I.step (g':=s.gens) (d':=s.drawn) (ch:=ch) (λb hb=>⟨(hf b hb).2.2.2.1,(hf b hb).2.1,(hf b hb).2.2.2.2.1,(hf b hb).2.2.2.2.2⟩) (λb o _ _ d e _=>k b o d e) (λb o _ _ d e _=>⟨o.slots,k b o d e⟩)
  (λb o _ e n=>by rw[CK (h b o e)];exact n)
  (λb o d e=>⟨o,k b o d e⟩) (λb ys e=>by rw[CK (a b _ e)];exact e) (λb o u e=>by rw[CK (a b _ e)];exact e) (λb ps e=>⟨#[],by rw[CK (a b _ e),e];simp⟩) (λm j=>?_) (λb u e=>?_) I.bare
 ·obtain⟨o,es,ep,i,r⟩:=j;exact⟨o,es,ep,k _ o (λz=>(hf _ z).2.1 rfl) i,r⟩
 ·by_cases hb:b=T
  ·subst hb;rw[Ao]at e;cases e;exact⟨hz,its,hv,ht⟩
  ·rw[CK hb]at e;refine(I.hok b u e).stay (λc v d q=>k c v ?_ q) (λc q=>by rw[CK (a c _ q)];exact q) λc ys q=>by rw[CK (a c _ q)];exact q
   rcases d with z | z
   ·rw[z];exact f b u e
   ·exact f c _ z
end
def Hj (t:Bool)(K:U0)(H:Hp)(a:Y0)(xs:List V):Prop:=if t then Ah K H a xs else Af K H a xs
variable{xs:List V}
theorem Inv.sqx{X:Cx}{pins:U1}{σ:St}{H:Hp}{s:U7}{t:Bool}{a:Y0}(I:Inv X pins σ H s)(h:Hj t X.K H a xs):∃its:List Value,Vals xs its/\Zp.Dat t s.heap a its.toArray/\xs.length<=sizeLine:=by
 cases t
 ·obtain⟨its,v,p,z⟩:=I.list (show Af X.K H a xs from h);exact⟨its,v,p.isList,z⟩
 ·obtain⟨its,v,p,z⟩:=I.tuple (show Ah X.K H a xs from h);exact⟨its,v,p,z⟩
variable{ys:List V}
theorem Inv.sqx_inj{X:Cx}{pins:U1}{σ:St}{H:Hp}{s:U7}{t:Bool}{a:Y0}(I:Inv X pins σ H s)(h:Hj t X.K H a xs)(h':Hj t X.K H a ys):xs=ys:=by
 cases t
 ·exact I.list_inj (show Af X.K H a xs from h) h'
 ·exact I.tuple_inj (show Ah X.K H a xs from h) h'
def VR (t1 t2:Bool)(K:U0)(l1 l2:Y0):It :=
 ⟨λi H=>∃xs x ys y,Hj t1 K H l1 xs/\xs[i]?=some x/\Hj t2 K H l2 ys/\ys[i]?=some y,
 λi H v H'=>∃T x y,v=.ref T/\H T=none/\H'=upd H T (.tup [x,y])/\(∀xs,Hj t1 K H l1 xs->xs[i]?=some x)/\∀ys,Hj t2 K H l2 ys->ys[i]?=some y,
 λi H=>∃xs ys,Hj t1 K H l1 xs/\Hj t2 K H l2 ys/\(xs.length<=i\/ys.length<=i)⟩
theorem Y7a{P:U8}{w:W1}{K:U0}{es:List Expr}{kk:Nat}{tp:Pos}{t1 t2:Bool}{z TI TO i1 i2 l1 l2:Y0}(D:ZipApart z TI TO i1 i2 l1 l2):
  Turn P w K (.Tuple es kk tp) (VR t1 t2 K l1 l2) [z,TI,TO,i1,i2] z (λi h=>IsZip h z TI TO .none/\IsPair h TI (.ref i1) (.ref i2)/\(∃a b,IsPair h TO a b)/\Zp.GJ t1 h i1 l1 i/\Zp.GJ t2 h i2 l2 i) where
 mem:=by simp
 obj:=λi h st b hb=>by
  obtain⟨c,d,⟨x,y,g⟩,f,j⟩:=st;simp only[Cy,Ei,Eh]at hb;rcases hb with rfl | rfl | rfl | rfl | rfl
  ·exact⟨_,c,λv q=>by have B:Data.fields _=Data.cell v:=q;cases B⟩
  ·exact⟨_,d,λv q=>by have B:Data.seq _ _=Data.cell v:=q;cases B⟩
  ·exact⟨_,g,λv q=>by have B:Data.seq _ _=Data.cell v:=q;cases B⟩
  ·exact f.obj
  ·exact j.obj
 keep:=λi h h' st k=>by
  obtain⟨c,d,⟨x,y,g⟩,f,j⟩:=st;exact⟨k z (by simp) _ c,k TI (by simp) _ d,⟨x,y,k TO (by simp) _ g⟩,f.at λo e=>k i1 (by simp) o e,j.at λo e=>k i2 (by simp) o e⟩
 item:=by
  intro X T W M V i pins s σ H E I J st Y;subst T W M;obtain⟨xs,x,ys,y,L,hx,G,hy⟩:=Y;obtain⟨c,d,⟨u1,u2,g⟩,f,j⟩:=st;obtain⟨its,Z,N,hz⟩:=I.sqx L;obtain⟨its',p,m,S⟩:=I.sqx G;obtain⟨t,A,rx⟩:=Z.get hx;obtain⟨F,C,ry⟩:=p.get hy;refine Zp.uY (I.ok.hd V) D c d g (d1:=⟨f,N⟩) (d2:=⟨j,m⟩) (λwx wy h' O Q b1 b2 b5 b3 b4 bk=>?_) (λh' n _=>?_);rotate_left
  ·exfalso;rcases n with n | n
   ·rw[show its.toArray[i]?=some t by simpa using A]at n;cases n
   ·rw[show its'.toArray[i]?=some F by simpa using C]at n;cases n
  obtain rfl:t=wx:=Option.some.inj ((show its.toArray[i]?=some t by simpa using A).symm.trans O);obtain rfl:F=wy:=Option.some.inj ((show its'.toArray[i]?=some F by simpa using C).symm.trans Q);refine⟨_,U,wpAny_letOwnedTupleGo_zip b1 λh2 c1 r=>?_⟩;have zT:s.heap.objs.size≠z:=Lr (Bv c);have k2:∀b o,b∉[z,TI,TO,i1,i2]->s.heap.get? b=some o->h2.get? b=some o:=λb o hb e=>by
   simp only[Cy,Ei,Eh,not_or]at hb;exact r.extBut b o hb.1 (bk b o (by simp[hb]) e)
  have hT:IsTup h2 s.heap.objs.size ([t,F]:U5).toArray:=⟨_,r.extBut _ _ zT b5,U,_,U⟩;refine⟨.ref s.heap.objs.size,upd H s.heap.objs.size (.tup [x,y]),I.turnedT (t':=s.toks) k2 J (Bj _) (.cons rx (.cons ry .nil)) (by show 2<=sizeLine;decide) hT,U,⟨_,x,y,U,I.hok.fresh (Bj _),U,λa6 h1=>?_,λa0 h1=>?_⟩,⟨c1,?_,⟨t,F,?_⟩,?_,?_⟩,λb hb=>?_⟩
  ·rw[I.sqx_inj h1 L];exact hx
  ·rw[I.sqx_inj h1 G];exact hy
  ·exact r.extBut _ _ D.TIz (bk _ _ (by simp[D.TIz,D.TITO,D.TIi1,D.TIi2]) d)
  ·exact r.extBut _ _ D.TOz b2
  ·exact b3.1.at λo q=>r.extBut _ _ D.i1z q
  ·exact b4.1.at λo q=>r.extBut _ _ D.i2z q
  ·have R:b<s.heap.objs.size:=by
    simp only[Cy,Ei,Eh]at hb;rcases hb with rfl | rfl | rfl | rfl | rfl
    ·exact Bv c
    ·exact Bv d
    ·exact Bv g
    ·obtain⟨o,e,_⟩:=f.obj;exact Bv e
    ·obtain⟨o,e,_⟩:=j.obj;exact Bv e
   rw[CK (Cw R)];exact(J b hb).1
 done:=by
  intro X T W M V i pins s σ H E I J st Y;subst T W M;obtain⟨xs,ys,L,G,u⟩:=Y;obtain⟨c,d,⟨u1,u2,g⟩,f,j⟩:=st;obtain⟨its,Z,N,hz⟩:=I.sqx L;obtain⟨its',p,m,S⟩:=I.sqx G;have e1:=Z.length;have e2:=p.length;have l:its.toArray[i]?=none\/its'.toArray[i]?=none:=by
   rcases u with h | h
   ·left;simp;omega
   ·right;simp;omega
  refine Zp.uY (I.ok.hd V) D c d g (d1:=⟨f,N⟩) (d2:=⟨j,m⟩) (λwx wy h' O Q b1 b2 b5 b3 b4 bk=>?_) (λh' n bk=>⟨U,I.turnedL (t':=s.toks) (λb o hb e=>?_) J⟩)
  ·exfalso;rcases l with n | n
   ·rw[O]at n;cases n
   ·rw[Q]at n;cases n
  ·simp only[Cy,Ei,Eh,not_or]at hb;exact bk b o (by simp[hb]) e
 self:=λ_ _ _ _ _ st h=>wpAny_pyIter_zip st.1 h
section
variable {X:Cx}{es:List Expr}{kk:Nat}{tp:Pos}
def jf (t1 t2:Bool)(K:U0)(ta:TA):TI:=λσ H R=>ta σ H λvs H1=>∃l1 l2 xs ys,vs=[.ref l1,.ref l2]/\Hj t1 K H1 l1 xs/\Hj t2 K H1 l2 ys/\R (VR t1 t2 K l1 l2) H1
theorem XQ(t1 t2:Bool){a b:Expr}{ta:TA}{p pos:Pos}(hg:Gl X "zip")(hm:X.mg "zip"=none)(ha:PA X [a,b] ta)(hs:starEach [a,b] X.env=[(false,eval a X.env),(false,eval b X.env)]:=by rfl)(hs2:starEach [b] X.env=[(false,eval b X.env)]:=by rfl):
  PI X (.Tuple es kk tp) (.Call (.Name "zip" p) [a,b] [] pos) (jf t1 t2 X.K ta):=by
 intro pins s σ H R I h;refine Call_ (Mi I hg hm boot_zip (PyProof.Rows.callWith_type1 (BW (ha pos pins s σ H _ I h) λus d ⟨vs,H1,g,u,t⟩=>?_) (by rw[hs,hs2]) (by rw[hs2];rfl)));obtain⟨l1,l2,xs,ys,e,h1,h2,q⟩:=t;subst e;cases u with
 | cons r rr =>
  cases rr with
  | cons r' rr =>
   cases rr;cases r;cases r';obtain⟨its,F,k,E⟩:=g.sqx h1;obtain⟨its',C,f,w⟩:=g.sqx h2;refine Zp.zq k f λh' ⟨n,v,x,y,A,j⟩=>?_;have z:∀c o,d.heap.get? c=some o->h'.get? c=some o:=λc o q=>j c o (by simp) q;have B:Inv X pins σ H1 {d with heap:=h'}:=g.kept (t':=d.toks) z;have l:l1<d.heap.objs.size:=by
    cases t1
    ·obtain⟨o,e,_⟩:=(show d.heap.IsList l1 _ from k);exact Bv e
    ·obtain⟨o,e,_⟩:=(show d.heap.IsTuple l1 _ from k);exact Bv e
   have m:l2<d.heap.objs.size:=by
    cases t2
    ·obtain⟨o,e,_⟩:=(show d.heap.IsList l2 _ from f);exact Bv e
    ·obtain⟨o,e,_⟩:=(show d.heap.IsTuple l2 _ from f);exact Bv e
   have D:ZipApart (d.heap.objs.size+4) (d.heap.objs.size+2) (d.heap.objs.size+3) d.heap.objs.size (d.heap.objs.size+1) l1 l2:=zipApart_new l m;refine wpAny_pyIter_zip n ⟨_,_,_,_,H1,U,B,Y7a D,⟨n,v,⟨_,_,x⟩,y,A⟩,λb hb=>?_,q⟩;have i:d.heap.objs.size<=b:=by
    simp only[Cy,Ei,Eh]at hb;rcases hb with rfl | rfl | rfl | rfl | rfl
    ·exact Vu _ _
    ·exact Vu _ _
    ·exact Vu _ _
    ·exact Bj _
    ·exact Vu _ _
   exact g.fpOk i (g.hok.fresh i)
end
theorem wW{t1 t2:Bool}{K:U0}{l1 l2:Y0}{g:TG}{te:TE}{fr:St}{H1:Hp}{acc:Y0}{Q:VK}(Pv:Nat->List V->Hp->Prop)(hxy:xs.length=ys.length)(hn:xs.length<=sizeLine)(h0:Pv 0 [] (upd H1 acc (.lst [])))
  (hg:∀{a:Y0}{x y v1 v2:V}{w1 w2:Option V}{H:Hp}{Q:St->Hp->Prop},H a=some (.tup [x,y])->Q (some x::some y::fr) H->g (.ref a) (w1::w2::fr) H Q)
  (hl:∀i zs H,Pv i zs H->Hj t1 K H l1 xs/\Hj t2 K H l2 ys)
  (hs:∀i x y zs H T (N:V->Hp->Prop),xs[i]?=some x->ys[i]?=some y->zs.length=i->Pv i zs H->H T=none->(∀z c,c acc=some (.lst zs)->Pv (i+1) (zs++[z]) (upd c acc (.lst (zs++[z])))->N z c)->te (some x::some y::fr) (upd H T (.tup [x,y])) N)
  (hd:∀zs H,zs.length=xs.length->Pv xs.length zs H->Q (.ref acc) H):Hq (VR t1 t2 K l1 l2) g te (none::none::fr) H1 acc Q:=by
 refine⟨λi m zs h H2=>m=xs.length-i/\i<=xs.length/\zs.length=i/\(∃v w,h=v::w::fr)/\Pv i zs H2,⟨xs.length,by simp,Dz _,U,⟨_,_,U⟩,h0⟩,?_⟩;rintro i m zs h H2 ⟨rfl,hi,b,⟨v,w,rfl⟩,p⟩;obtain⟨d,f⟩:=hl i zs H2 p;by_cases hlt:i<xs.length
 ·have l:xs[i]?=some xs[i]:=by simp[hlt]
  have j:ys[i]?=some (ys[i]'(by omega)):=by simp[show i<ys.length by omega]
  refine .inr ⟨⟨xs,_,ys,_,d,l,f,j⟩,λu t r=>?_⟩;obtain⟨T,x,y,rfl,q,rfl,h1,h2⟩:=r;have k:=h1 xs d;have o:=h2 ys f;refine hg (v1:=x) (v2:=y) (Ao) ?_;refine hs i x y zs H2 T _ k o b p q λz c s n=>⟨s,by omega,xs.length-(i+1),by omega,U,hlt,by rw[G3,b];rfl,⟨_,_,U⟩,n⟩
 ·have e:i=xs.length:=by omega
  subst e;exact .inl ⟨⟨xs,ys,d,f,.inl (Bj _)⟩,hd zs H2 b p⟩
end L2
namespace Bt
theorem j6(x y:Nat):(x&&&y)=2*((x / 2)&&&(y / 2))+(x%2)*(y%2):=by
 have h1:(x&&&y) / 2=(x / 2)&&&(y / 2):=Nat.and_div_two;have h2:(x&&&y)%2=1↔x%2=1/\y%2=1:=Nat.and_mod_two_eq_one;rcases LC x with a | a<;>rcases LC y with b | b<;>rw[a,b]at h2 ⊢<;>omega
theorem X6n(x y:Nat):(x ||| y)=2*((x / 2) ||| (y / 2))+(x%2+y%2-(x%2)*(y%2)):=by
 have h1:(x ||| y) / 2=(x / 2) ||| (y / 2):=Nat.or_div_two
 have h2:(x ||| y)%2=1↔x%2=1\/y%2=1:=Nat.or_mod_two_eq_one;rcases LC x with a | a<;>rcases LC y with b | b<;>rw[a,b]at h2 ⊢<;>omega
def Half (x y:Int):Prop:=Builtin.bitAnd x y=2*Builtin.bitAnd (x / 2) (y / 2)+(x%2)*(y%2)
variable{x y:Int}
theorem Half.swap(h:Half x y):Half y x:=by
 unfold Half at h ⊢;rw[bitAnd_comm y x,bitAnd_comm (y / 2),Jb (y%2)];exact h
theorem Half.flip(h:Half x (Builtin.bitNot y)):Half x y:=by
 unfold Half at h ⊢;have e:=bitAnd_not x (Builtin.bitNot y);have a:=bitAnd_not (x / 2) (Builtin.bitNot (y / 2));rw[Vl]at e a;have q:Builtin.bitNot (y / 2)=Builtin.bitNot y / 2:=by unfold Builtin.bitNot;omega
 have p:x%2*(y%2)=x%2-x%2*(Builtin.bitNot y%2):=by
  rw[show y%2=1-Builtin.bitNot y%2 by unfold Builtin.bitNot;omega,Int.mul_sub,Int.mul_one]
 rw[e,a,q,h,p];omega
theorem Half.pos(hx:0<=x)(hy:0<=y):Half x y:=by
 have h:∀{z:Int},0<=z->z.toNat / 2=(z / 2).toNat/\((z.toNat%2:Nat):Int)=z%2:=λh=>by omega
 unfold Half;rw[bitAnd_pp hx hy,bitAnd_pp (Int.ediv_nonneg hx (by decide)) (Int.ediv_nonneg hy (by decide)),j6,(h hx).1,(h hy).1,<-(h hx).2,<-(h hy).2,Int.natCast_add,YT,YT];rfl
theorem Half.right(hx:0<=x)(y:Int):Half x y :=
 (Classical.em (0<=y)).elim (Half.pos hx) λa=>(Half.pos hx (bitNot_nonneg.mpr a)).flip
theorem lB(x y:Int):Builtin.bitAnd x y=2*Builtin.bitAnd (x / 2) (y / 2)+(x%2)*(y%2):=
 (Classical.em (0<=x)).elim (λa=>Half.right a y) λa=>(Half.right (bitNot_nonneg.mpr a) y).swap.flip.swap
theorem X2g(x y:Int):Builtin.bitOr x y=2*Builtin.bitOr (x / 2) (y / 2)+(x%2+y%2-(x%2)*(y%2)):=by
 rw[bitOr_and,bitOr_and,lB];omega
theorem mF{v:Nat}:(2:Int)^(v+1) ∣ x↔x%2=0/\(2:Int)^v ∣ x / 2:=by
 constructor
 ·rintro ⟨k,rfl⟩;have e:(2:Int)^(v+1)*k=2*(2^v*k):=by rw[Ri];grind
  rw[e];exact⟨by omega,⟨k,by omega⟩⟩
 ·rintro ⟨b,k,a⟩;refine⟨k,?_⟩;have e:(2:Int)^(v+1)*k=2*(2^v*k):=by rw[Ri];grind
  rw[e,<-a];omega
theorem QM:∀(v:Nat) (x y:Int),(2:Int)^v ∣ Builtin.bitOr x y↔(2:Int)^v ∣ x/\(2:Int)^v ∣ y
 | 0,x,y=>by simp
 | v+1,x,y=>by
  rw[mF,mF,mF];have e:=X2g x y;have g:=QM v (x / 2) (y / 2);have ex:=Vn x;have f:=Vn y;rcases ex with a | a<;>rcases f with b | b<;>rw[a,b]at e ⊢
  ·have d:Builtin.bitOr x y / 2=Builtin.bitOr (x / 2) (y / 2):=by omega
   rw[d,g];have c:Builtin.bitOr x y%2=0:=by omega
   simp[c]
  all_goals
   have c:Builtin.bitOr x y%2=1:=by omega
   simp[c]
theorem Y2j(n:Nat):n<2^n:=Nat.lt_two_pow_self
theorem qj(h:∀v:Nat,(2:Int)^v ∣ x):x=0:=by
 have h1:=h x.natAbs;apply Classical.byContradiction;intro b;have h2:=Vz.mpr h1;have a:=Nat.le_of_dvd (by omega) h2;rw[Int.natAbs_pow]at a;have:=Y2j x.natAbs;have e:(2:Int).natAbs=2:=rfl;rw[e]at a;omega
theorem or_zero:Builtin.bitOr x y=0↔x=0/\y=0:=by
 constructor
 ·intro h;have a:∀v:Nat,(2:Int)^v ∣ Builtin.bitOr x y:=λv=>by rw[h];exact Int.dvd_zero _
  exact⟨qj λv=>((QM v x y).mp (a v)).1,qj λv=>((QM v x y).mp (a v)).2⟩
 ·rintro ⟨rfl,rfl⟩;decide +kernel
theorem sX:∀(n:Nat) (p:Int),p.natAbs<n->p≠0->∃(v:Nat) (q:Int),p=2^v*q/\q%2=1/\Builtin.bitAnd p (-p)=((2^v:Nat):Int)
 | 0,p,h,_=>by omega
 | n+1,p,h,hp=>by
  rcases Vn p with h0 | h1
  ·obtain⟨v,q,e,o,b⟩:=sX n (p / 2) (by omega) (by omega);refine⟨v+1,q,?_,o,?_⟩
   ·have a:(2:Int)^(v+1)*q=2*(2^v*q):=by rw[Ri];grind
    rw[a,<-e];omega
   ·rw[lB,show (-p) / 2=-(p / 2) by omega,b,h0,Nat.pow_succ];omega
  ·refine⟨0,p,by simp,h1,?_⟩;rw[lB,show (-p) / 2=Builtin.bitNot (p / 2) by unfold Builtin.bitNot;omega,bitAnd_not,bitAnd_self,h1,show (-p)%2=1 by omega];rw[Int.sub_self];rfl
theorem lC(v:Nat):Builtin.Int.intBits ((2^v:Nat):Int)=v+1:=by
 unfold Builtin.Int.intBits;have hp:0<2^v:=Kh v;have a:((((2^v:Nat):Int)) == 0)=false:=by
  rw[beq_eq_false_iff_ne];omega
 rw[a,Rq,Nat.log2_two_pow];rfl
end Bt
namespace L2
section
variable {X:Cx}
def nq (i j:Int):Prop:=∃a,Sz a i/\0<=j/\(a:Int)+j<=1048576
theorem K3:C_ X (binaryOp .LShift) (rI nq λi j=>.int (i*2^j.toNat)):=NZ λi j _ _ _ _ _ b q=>by
 obtain⟨a,h1,h2,c⟩:=b;have:=h1.bits;exact lshift_int h2 (by omega) q
theorem Wm:Nz X "int.bit_length" (λx xs H Q=>∃i,x=.int i/\xs=[]/\Q (.int (Builtin.Int.intBits i:Nat)) H):=by
 intro pins s σ H x xs v us Q I a b h;obtain⟨i,rfl,rfl,q⟩:=h;obtain⟨t,rfl⟩:=a;cases b;refine call_gives Ry (typeIs_int s i t) PySem.F.entry_int_bit_length (PySem.F.args_int_bit_length_1 _) (PySem.AutoIntG2.int_bit_length_int_0 i t) ?_;exact⟨.int (Builtin.Int.intBits i:Nat),H,I.tok _,⟨_,U⟩,q⟩
theorem Y6o(hc:X.calm=true):CJ X (.builtin "any") (λxs H Q=>∃(p:Y0) (bs:List Bool),xs=[.ref p]/\Af X.K H p (bs.map V.bl)/\Q (.bl (bs.any id)) H):=by
 intro pins s σ H xs us Q I r h;obtain⟨p,bs,rfl,x,q⟩:=h;obtain⟨u,rfl,g⟩:=r.one;cases g;obtain⟨its,l,pl,z⟩:=I.list x;have a:its.length=bs.length:=by rw[<-l.length,BJ]
 refine call_any_walk (Og pl.isList ?_)
 have W:=Walks.list (prog:=X.prog) (w:=X.w) (A:=X.A.in1) (show X.A.in1.handled=none from I.ok.hd hc) s.heap.objs.size p (by
  obtain⟨o,e,_⟩:=pl.isList
  exact Cw (Bv e)) its.toArray
 refine⟨s.heap.objs.size,_,_,_,_,_,λi=>bs.getD i false,U,W,⟨⟨_,Ej _ rfl,U,U⟩,pl.isList.push _⟩,?_,λh' tk t=>?_⟩
 ·intro i v s' B y m n;have c:its[i]?=some v:=by simpa using m
  have hi:i<bs.length:=by rw[<-a];exact(Fb.mp c).1
  have hb:(bs.map V.bl)[i]?=some (.bl (bs.getD i false)):=by
   rw[Dw,Gp hi,Kq,Gp hi];rfl
  obtain⟨u,k,g⟩:=l.get hb;rw[c]at k;cases k;cases g;exact Lx n
 ·have e:(List.range its.toArray.size).any (λi=>bs.getD i false)=bs.any id:=by
   rw[Eb,a];rw[Pn,YZ,YZ];constructor
   ·rintro ⟨i,hi,hb⟩;have d:i<bs.length:=Fq.mp hi;rw[Kq,Gp d]at hb;exact⟨bs[i],Vt d,hb⟩
   ·rintro ⟨b,hb,f⟩;obtain⟨i,hi,rfl⟩:=List.mem_iff_getElem.mp hb;refine⟨i,Fq.mpr hi,?_⟩;rw[Kq,Gp hi];exact f
  rw[e];refine⟨.bl (bs.any id),H,?_,U,q⟩;exact I.kept (t':=tk) λb o j=>t b o (by simp;exact Cw (Bv j)) (Df _ j)
def RQ (K:U0)(neg:Bool):R2:=λx y H Q=>∃(a b:Y0) (ns ms:U6),x=.ref a/\y=.ref b/\Af K H a (ns.map V.int)/\Af K H b (ms.map V.int)/\Q (.bl (if neg then !decide (ns=ms) else decide (ns=ms))) H
theorem X2h(hu:X.A.units+64<cLine):C_ X (compareOp .NotEq) (RQ X.K true):=by
 intro pins s σ H x y v u Q I e d h;obtain⟨a,b,ns,ms,rfl,rfl,h1,h2,q⟩:=h;cases e;cases d;obtain⟨its,g,p,_⟩:=I.list h1;obtain⟨its',c,f,_⟩:=I.list h2;exact PySem.W.ne_intsK p.isList (Qg g) f.isList (Qg c) hu ⟨.bl (!decide (ns=ms)),H,I,U,q⟩
end
end L2
namespace Am
noncomputable abbrev p2 (h:Int):Int:=2^h.toNat
theorem O7(h:Int):0<p2 h:=Vg (by decide)
theorem Es(h:Int):p2 h≠0:=by have:=O7 h;omega
variable{a b:Int}
theorem H_(ha:0<=a)(hb:0<=b):p2 (a+b)=p2 a*p2 b:=by
 unfold p2;rw[show (a+b).toNat=a.toNat+b.toNat by omega,Int.pow_add]
theorem Ju(hb:0<=b)(h:b<=a):p2 a=p2 (a-b)*p2 b:=by
 rw[<-H_ (by omega) hb];congr 1;omega
structure Fx (a b c d h:Int):Prop where
 nn:0<=h
 odd:h=0\/a%2=1\/b%2=1\/c%2=1\/d%2=1
def Dy (x h y g:Int):Prop:=x*p2 g=y*p2 h
structure CG (a b c d h a' b' c' d' h':Int):Prop where
 e1:Dy a h a' h'
 e2:Dy b h b' h'
 e3:Dy c h c' h'
 e4:Dy d h d' h'
variable{c d h a' b' c' d' h':Int}
theorem CG.symm(s:CG a b c d h a' b' c' d' h'):CG a' b' c' d' h' a b c d h:=⟨s.e1.symm,s.e2.symm,s.e3.symm,s.e4.symm⟩
variable{x y g:Int}
theorem Dy.trans{z k:Int}(a:Dy x h y g)(b:Dy y g z k):Dy x h z k:=by
 unfold Dy at *;have h1:(x*p2 k)*p2 g=(z*p2 h)*p2 g:=by
  have d:(x*p2 k)*p2 g=(x*p2 g)*p2 k:=by grind
  have c:(z*p2 h)*p2 g=(z*p2 g)*p2 h:=by grind
  rw[d,c,a,<-b];grind
 exact Jd (Es g) h1
theorem CG.trans{a2 b2 c2 d2 h2:Int}(s:CG a b c d h a' b' c' d' h')(t:CG a' b' c' d' h' a2 b2 c2 d2 h2):CG a b c d h a2 b2 c2 d2 h2 :=
 ⟨s.e1.trans t.e1,s.e2.trans t.e2,s.e3.trans t.e3,s.e4.trans t.e4⟩
theorem Dy.lift(hh:0<=h)(hg:h<=g)(e:Dy x h y g):y=x*p2 (g-h):=by
 unfold Dy at e;rw[Ju hh hg]at e;have:(x*p2 (g-h))*p2 h=y*p2 h:=by rw[<-e];grind
 exact(Jd (Es h) this).symm
theorem Wk{n:Int}(hn:0<n):(x*p2 n)%2=0:=by
 have e:p2 n=p2 (n-1)*2:=by
  rw[Ju (a:=n) (b:=1) (by decide) (by omega)];rfl
 rw[e,<-Oa];omega
theorem Fx.unique_le(x:Fx a b c d h)(y:Fx a' b' c' d' h')(s:CG a b c d h a' b' c' d' h')(hle:h<=h'):a=a'/\b=b'/\c=c'/\d=d'/\h=h':=by
 have e1:=s.e1.lift x.nn hle;have e2:=s.e2.lift x.nn hle;have e3:=s.e3.lift x.nn hle;have e4:=s.e4.lift x.nn hle;have e:h=h':=by
  apply Classical.byContradiction;intro f;have hp:0<h'-h:=by omega
  have o:=y.odd;rw[e1,e2,e3,e4,Wk hp,Wk hp,Wk hp,Wk hp]at o;have:=x.nn;omega
 subst e;simp only[Int.sub_self,p2,Int.toNat_zero,Int.pow_zero,Int.mul_one]at e1 e2 e3 e4;exact⟨e1.symm,e2.symm,e3.symm,e4.symm,U⟩
theorem Fx.unique(x:Fx a b c d h)(y:Fx a' b' c' d' h')(s:CG a b c d h a' b' c' d' h'):a=a'/\b=b'/\c=c'/\d=d'/\h=h':=by
 rcases Pj h h' with hle | hle
 ·exact x.unique_le y s hle
 ·obtain⟨e,g,i,f,j⟩:=y.unique_le x s.symm hle;exact⟨e.symm,g.symm,i.symm,f.symm,j.symm⟩
noncomputable abbrev Ek (a b c d:Int):Int:=Builtin.bitOr (Builtin.bitOr (Builtin.bitOr a b) c) d
variable{v:Nat}
theorem Gb:(2:Int)^v ∣ Ek a b c d↔((2:Int)^v ∣ a/\(2:Int)^v ∣ b/\(2:Int)^v ∣ c/\(2:Int)^v ∣ d):=by
 unfold Ek;rw[Bt.QM,Bt.QM,Bt.QM];constructor
 ·rintro ⟨⟨⟨h1,h2⟩,f⟩,e⟩;exact⟨h1,h2,f,e⟩
 ·rintro ⟨h1,h2,f,e⟩;exact⟨⟨⟨h1,h2⟩,f⟩,e⟩
theorem Im:Ek a b c d=0↔(a=0/\b=0/\c=0/\d=0):=by
 unfold Ek;rw[Bt.or_zero,Bt.or_zero,Bt.or_zero];constructor
 ·rintro ⟨⟨⟨h1,h2⟩,f⟩,e⟩;exact⟨h1,h2,f,e⟩
 ·rintro ⟨h1,h2,f,e⟩;exact⟨⟨⟨h1,h2⟩,f⟩,e⟩
theorem lowest(hp:Ek a b c d≠0):∃v:Nat,((Builtin.Int.intBits (Builtin.bitAnd (Ek a b c d) (-(Ek a b c d))):Nat):Int)-1=v/\((2:Int)^v ∣ a/\(2:Int)^v ∣ b/\(2:Int)^v ∣ c/\(2:Int)^v ∣ d) /\
  ¬ ((2:Int)^(v+1) ∣ a/\(2:Int)^(v+1) ∣ b/\(2:Int)^(v+1) ∣ c/\(2:Int)^(v+1) ∣ d):=by
 obtain⟨v,q,e,o,g⟩:=Bt.sX _ (Ek a b c d) (Px _) hp;refine⟨v,by rw[g,Bt.lC];omega,Gb.mp ⟨q,e⟩,λh=>?_⟩;have h':=Gb.mpr h;obtain⟨k,f⟩:=h';rw[e,Ri,Oa]at f;have:=QG (YB (Vg (by decide):(0:Int)<2^v)) f;omega
theorem Wd{m:Int}(hm:0<=m)(hmh:m<=h)(hd:(2:Int)^m.toNat ∣ x):Dy x h (x / 2^m.toNat) (h-m)/\(x / 2^m.toNat).natAbs<=x.natAbs:=by
 obtain⟨k,rfl⟩:=hd;have a:(2:Int)^m.toNat≠0:=Es m;rw[pD _ a];constructor
 ·unfold Dy;rw[Ju hm hmh];show 2^m.toNat*k*p2 (h-m)=k*(p2 (h-m)*2^m.toNat);grind
 ·rw[Hv];exact oZ _ (by omega)
theorem XC{m:Nat}(h:m<=v)(hd:(2:Int)^v ∣ x):(2:Int)^m ∣ x:=by
 obtain⟨k,rfl⟩:=hd;refine⟨2^(v-m)*k,?_⟩;rw[<-Oa,<-Int.pow_add,show m+(v-m)=v by omega]
theorem Tv(hh:0<=h)(hd:(2:Int)^v ∣ a/\(2:Int)^v ∣ b/\(2:Int)^v ∣ c/\(2:Int)^v ∣ d)
  (hn:¬ ((2:Int)^(v+1) ∣ a/\(2:Int)^(v+1) ∣ b/\(2:Int)^(v+1) ∣ c/\(2:Int)^(v+1) ∣ d)) {m:Int} (hm:m=if h<v then h else v):
  0<=m/\m<=h/\Fx (a / 2^m.toNat) (b / 2^m.toNat) (c / 2^m.toNat) (d / 2^m.toNat) (h-m)/\CG a b c d h (a / 2^m.toNat) (b / 2^m.toNat) (c / 2^m.toNat) (d / 2^m.toNat) (h-m) /\
  ((a / 2^m.toNat).natAbs<=a.natAbs/\(b / 2^m.toNat).natAbs<=b.natAbs/\(c / 2^m.toNat).natAbs<=c.natAbs/\(d / 2^m.toNat).natAbs<=d.natAbs):=by
 have g:0<=m:=by rw[hm];split<;>omega
 have i:m<=h:=by rw[hm];split<;>omega
 have mv:m.toNat<=v:=by rw[hm];split<;>omega
 obtain⟨d1,d2,r,t⟩:=hd;have q:=Wd g i (XC mv d1);have n:=Wd g i (XC mv d2);have p:=Wd g i (XC mv r);have s:=Wd g i (XC mv t);refine⟨g,i,⟨by omega,?_⟩,⟨q.1,n.1,p.1,s.1⟩,q.2,n.2,p.2,s.2⟩;by_cases hlt:h<v
 ·left;rw[hm,if_pos hlt];omega
 ·right;have j:m.toNat=v:=by rw[hm,if_neg hlt];omega
  rw[j];have e:∀x:Int,(2:Int)^v ∣ x->¬ (x / 2^v)%2=1->(2:Int)^(v+1) ∣ x:=by
   rintro x ⟨k,rfl⟩ u;have l:(2:Int)^v≠0:=YB (Vg (by decide));rw[pD _ l]at u;refine⟨k / 2,?_⟩;rw[Ri,Oa];congr 1;omega
  apply Classical.byContradiction;intro f;apply hn;refine⟨e a d1 λo=>f (.inl o),e b d2 λo=>f (.inr (.inl o)),e c r λo=>f (.inr (.inr (.inl o))),e d t λo=>f (.inr (.inr (.inr o)))⟩
end Am
namespace Pc
noncomputable def pc (n:Nat):Nat:=if h:n=0 then 0 else n%2+pc (n / 2)
theorem vH(n:Nat):pc n=if n=0 then 0 else n%2+pc (n / 2):=by
 delta pc;rw[WellFounded.Nat.fix_eq];rfl
theorem j_:pc 0=0:=by rw[vH];rfl
theorem su(n:Nat):pc n=n%2+pc (n / 2):=by
 by_cases h:n=0
 ·subst h;rw[show (0 / 2:Nat)=0 from rfl,j_]
 ·rw[vH n,if_neg h]
theorem X3m(x y:Nat):(x^^^y)=2*((x / 2)^^^(y / 2))+(x%2+y%2)%2:=by
 have h1:(x^^^y) / 2=(x / 2)^^^(y / 2):=Nat.xor_div_two;have h2:(x^^^y)%2=(x%2+y%2)%2:=by
  have:=Nat.xor_mod_two_eq_one (a:=x) (b:=y);rcases LC x with a | a<;>rcases LC y with b | b<;>rcases LC (x^^^y) with c | c<;>simp[a,b,c]at this ⊢
 omega
theorem sZ:∀(m n:Nat),n<m->n≠0->pc (n&&&(n-1))+1=pc n
 | 0,n,h,_=>by omega
 | m+1,n,h,hn=>by
  have e:=Bt.j6 n (n-1);rw[su n,su (n&&&(n-1))];rcases LC n with a | a
  ·have b:(n-1) / 2=n / 2-1:=by omega
   rw[b,a,Nat.zero_mul]at e;have c:(n&&&(n-1)) / 2=n / 2&&&(n / 2-1):=by omega
   have d:(n&&&(n-1))%2=0:=by omega
   rw[c,d,a];have:=sZ m (n / 2) (by omega) (by omega);omega
  ·have b:(n-1) / 2=n / 2:=by omega
   have f:(n-1)%2=0:=by omega
   rw[b,f,Nat.mul_zero,Nat.and_self]at e;have c:(n&&&(n-1)) / 2=n / 2:=by omega
   have d:(n&&&(n-1))%2=0:=by omega
   rw[c,d,a];omega
theorem Wx:∀(m x y:Nat),x<m->y<m->(x ||| y)=(x^^^y)+(x&&&y)
 | 0,x,y,h,_=>by omega
 | m+1,x,y,hx,hy=>by
  by_cases z:x=0/\y=0
  ·obtain⟨rfl,rfl⟩:=z;rfl
  ·have e:=X3m x y;have d:=Bt.j6 x y;have c:=Bt.X6n x y;by_cases q:x / 2<m/\y / 2<m
   ·have:=Wx m (x / 2) (y / 2) q.1 q.2;rcases LC x with a | a<;>rcases LC y with b | b<;>rw[a,b]at e d c<;>omega
   ·exfalso;omega
theorem Jg(x y:Nat):Builtin.bitAnd (x:Int) (y:Int)=((x&&&y:Nat):Int):=by rw[bitAnd_pp (by omega) (by omega)];simp
theorem O6(x y:Nat):Builtin.bitXor (x:Int) (y:Int)=((x^^^y:Nat):Int):=by
 have h:Builtin.bitXor (x:Int) (y:Int)=Builtin.bitOr x y-Builtin.bitAnd x y:=rfl;have h2:Builtin.bitOr (x:Int) (y:Int)=((x ||| y:Nat):Int):=by
  unfold Builtin.bitOr;rw[bitAnd_nn (by unfold Builtin.bitNot;omega) (by unfold Builtin.bitNot;omega),Vl,Vl,Vl];simp
 rw[h,h2,Jg,Wx (x+y+1) x y (by omega) (by omega)];omega
theorem xP{x y n:Nat}(h:x<2^n)(h':y<2^n):(x^^^y)<2^n:=Ym h h'
end Pc
namespace L2
theorem Same.tup{K:U0}{H H':Hp}{a:Y0}{xs:List V}(e:Same H H')(h:Ah K H a xs):Ah K H' a xs:=by
 rcases h with h | h
 ·rcases h with h | ⟨o,h⟩
  ·exact .inl (.inl (e _ _ h))
  ·exact .inl (.inr ⟨o,e _ _ h⟩)
 ·exact .inr h
theorem Same.sqx{t:Bool}{K:U0}{H H':Hp}{a:Y0}{xs:List V}(e:Same H H')(h:Hj t K H a xs):Hj t K H' a xs:=by
 cases t
 ·exact e.seq (show Af K H a xs from h)
 ·exact e.tup (show Ah K H a xs from h)
section
variable {X:Cx}{scope:Scope}{Nc:W0}{ex:U3}{pins:U1}{s:U7}{H:Hp}
theorem lF:Qn (Aw X scope Nc ex pins s H) (RP X.K):=DK
theorem X3w:Qn (Aw X scope Nc ex pins s H) (RN X.K):=Az
theorem Qd{x y:Str}{k:Nat}{p1 p2 pos:Pos}(hc:(Aw X scope Nc ex pins s H).calm=true)(hN:Nc.Nodup)(h0:Nc[0]?=some x)(h1:Nc[1]?=some y)(l0:(Aw X scope Nc ex pins s H).env.scope.names.lookup x=some .local)(l1:(Aw X scope Nc ex pins s H).env.scope.names.lookup y=some .local):
  PG (Aw X scope Nc ex pins s H) (.Tuple [.Name x p1,.Name y p2] k pos) (Ot X.K 2 (Ge (Bf 0) (Ge (Bf 1) Ou))):=
 O8 (X:=Aw X scope Nc ex pins s H) hc (IK (Ck (i:=0) hN h0 (.inl l0) (.inr l0)) (IK (Ck (i:=1) hN h1 (.inl l1) (.inr l1)) PB))
end
theorem sW{t1 t2:Bool}{K:U0}{l1 l2:Y0}{g:TG}{ns ms:U6}{te:TE}{fr:St}{H1:Hp}{acc:Y0}{Q:VK}(f:Int->Int->Int)(hxy:ns.length=ms.length)(hn:ns.length<=sizeLine)
  (h1:Hj t1 K H1 l1 (ns.map V.int)) (h2:Hj t2 K H1 l2 (ms.map V.int)) (hacc:H1 acc=none)
  (hg:∀{a:Y0}{x y:V}{w1 w2:Option V}{H:Hp}{Q:St->Hp->Prop},H a=some (.tup [x,y])->Q (some x::some y::fr) H->g (.ref a) (w1::w2::fr) H Q)
  (hs:∀n m H (N:V->Hp->Prop),n∈ns->m∈ms->N (.int (f n m)) H->te (some (.int n)::some (.int m)::fr) H N)
  (hd:∀H2,Same H1 H2->H2 acc=some (.lst ((List.zipWith f ns ms).map V.int))->Q (.ref acc) H2):Hq (VR t1 t2 K l1 l2) g te (none::none::fr) H1 acc Q:=by
 refine wW (xs:=ns.map V.int) (ys:=ms.map V.int) (λi zs H'=>Same H1 H'/\H' acc=some (.lst zs)/\zs=((List.zipWith f ns ms).take i).map V.int) (by simp[hxy]) (by simp;exact hn)
  ⟨Ax hacc _,Ao,U⟩ (λs r=>hg s r) (λi zs H p=>⟨p.1.sqx h1,p.1.sqx h2⟩) ?_ ?_
 ·rintro i x y zs H T N o q t ⟨j,d,h⟩ l u;rw[Dw]at o q;obtain⟨n,c,rfl⟩:=GZ.mp o;obtain⟨m,b,rfl⟩:=GZ.mp q;refine hs n m _ _ (Il c) (Il b) ?_;have k:acc≠T:=λe=>by rw[<-e,d]at l;cases l
  refine u _ _ (by rw[CK k];exact d) ⟨Et (j.trans (Ax l _)) hacc,Ao,?_⟩;have:(List.zipWith f ns ms)[i]?=some (f n m):=by rw[List.getElem?_zipWith,c,b]
  rw[Km,this,Dn,h];rfl
 ·rintro zs H t ⟨j,d,h⟩;refine hd H j ?_;rw[d,h,V0];simp only[List.length_zipWith,BJ];omega
section
variable {K:U0}{a:Y0}{ns:U6}{te:TE}{fr:St}{H1:Hp}{acc:Y0}{Q:VK}
theorem sJ{J:It}{n:Nat}{val:Nat->V}(f:Nat->V)(hn:n<=sizeLine)(hacc:H1 acc=none)
  (hgo:∀i H,i<n->Same H1 H->J.go i H/\∀x H',J.yld i H x H'->H'=H/\x=val i) (hst:∀H,Same H1 H->J.stop n H)
  (hs:∀i H (N:V->Hp->Prop),i<n->Same H1 H->N (f i) H->te (some (val i)::fr) H N)
  (hd:∀H2,Same H1 H2->H2 acc=some (.lst ((List.range n).map f))->Q (.ref acc) H2):Hq J (Bf 0) te (none::fr) H1 acc Q:=by
 refine Ww (val:=val) (λi ys H'=>Same H1 H'/\H' acc=some (.lst ys)/\ys=(List.range i).map f) hn ⟨Ax hacc _,Ao,U⟩ (λi ys H hi p=>hgo i H hi p.1) (λys H p=>hst H p.1) ?_ ?_
 ·rintro i ys H N hi d ⟨a,b,c⟩ e;refine hs i H N hi a (e _ _ b ⟨Et a hacc,Ao,?_⟩);rw[c,Pr,Dn];rfl
 ·rintro ys H d ⟨a,b,c⟩;exact hd H a (by rw[b,c])
theorem Y3p(ns:U6)(f:Int->V):(List.range ns.length).map (λi=>f (ns.getD i 0))=ns.map f:=by
 apply List.ext_getElem
 ·simp
 ·intro i h1 h2;simp at h1;simp[h1]
end
section
variable {X:Cx}
end
section
variable {κ:Type} [DecidableEq κ]
noncomputable def G9 (kvs:List (κ×V))(k:κ):Option V:=(kvs.find? λkv=>decide (kv.1=k)).map (·.2)
variable{k:κ}
theorem X8c:G9 ([]:List (κ×V)) k=none:=rfl
variable{p:κ×V}{r:List (κ×V)}
theorem Y6x(e:p.1=k):G9 (p::r) k=some p.2:=by simp[G9,Vo,e]
theorem Y6y(e:¬ p.1=k):G9 (p::r) k=G9 r k:=by simp[G9,Vo,e]
theorem D_.isSome_eq{o:Option V}{u:Option Value}(r:D_ o u):o.isSome=u.isSome:=by
 cases o with
 | none=>cases u with
  | none=>rfl
  | some _=>exact(show False from r).elim
 | some _=>cases u with
  | none=>exact(show False from r).elim
  | some _=>rfl
variable{kvs:List (κ×V)}{vs:List (κ×Value)}
theorem KV.val(r:KV kvs vs)(k:κ):D_ (G9 kvs k) (valueAt vs k):=by
 unfold KV at r;induction r with
 | nil=>exact True.intro
 | @cons p q ps qs h t ih =>
  obtain⟨h1,h2⟩:=h;by_cases e:p.1=k
  ·have a:q.1=k:=h1.symm.trans e;have b:valueAt (q::qs) k=some q.2:=by simp[valueAt,Vo,a]
   rw[Y6x e,b];exact h2
  ·have a:¬ q.1=k:=λz=>e (h1.trans z);have b:valueAt (q::qs) k=valueAt qs k:=by simp[valueAt,Vo,a]
   rw[Y6y e,b];exact ih
theorem KV.keys(r:KV kvs vs):kvs.map (·.1)=vs.map (·.1):=by
 unfold KV at r;induction r with
 | nil=>rfl
 | cons h t ih=>rw[Ls,Ls,ih,h.1]
end
theorem vC{P:U8}{w:W1}{k:Key}{u:W2}(r:RelV (kV k) u):(Nv P w).is k u=true:=by
 cases k with
 | inl i=>obtain⟨t,e⟩:=(show ∃t,u=Value.int i t from r);subst e;exact zM P w i t
 | inr x=>obtain⟨t,e⟩:=(show ∃t,u=Value.str x t from r);subst e;exact zN P w x t
section
variable {P:U8}{w:W1}{H:Hp}{h:Heap}{a:Y0}
end
section
variable {X:Cx}{pins:U1}{σ:St}{H:Hp}{s:U7}{a:Y0}{y v:V}{u r:W2}{o:Option V}{A:W7}{E:U2}
end
section
variable {X:Cx}{pins:U1}{σ:St}{H:Hp}{s:U7}{a:Y0}{kvs:List (Key×V)}{k:Key}{u:W2}{A:W7}{E:U2}
end
def VP (i:Expr):Prop:=∀ov iv,subscripted i false ov iv=operate [ov,iv] (getItem ov iv)
theorem X1q{prog:U8}{w:W1}{A:W7}{E:U2}{s:U7}{env:Env}{value slice:Expr}{pos:Pos}{T id:String}{Q:U2}
  (hl:typeLookup (.type T) "__getitem__"=pure (some (.builtin id))) (hs:VP slice)
  (h:wpAny (model prog w) A (eval value env) (λo d=>wpAny (model prog w) A (eval slice env) (λi s₂=>s₂.TypeIs o T/\wpAny (model prog w) A (getItem o i) Q E s₂) E d) E s):
  wpAny (model prog w) A (eval (.Subscript value slice pos) env) Q E s:=by
 refine Subscript_ (Ep h (λo d g=>Ep g (λi s₂ b=>?_) λ_ _ x=>x) λ_ _ x=>x);obtain⟨c,b⟩:=b;unfold subscriptTail;refine Bm ?_;rw[getitemInPython_of_ne c.not_modules];refine Bm (wpAny_specialOf c hl ?_);have a:wpAny (model prog w) A (subscripted slice false o i) (λr e=>wpAny (model prog w) A (letTemporaryGo value o r >>= λ_=>pure r) Q E e) E s₂:=by
  rw[hs o i];exact wpAny_operating (Ep b (λr e f=>Bm (wpAny_letTemporaryGo (CW f))) λ_ _ x=>x)
 first
  | exact CW (Bm a)
  | exact Bm (CW (Bm a))
  | exact Bm a
section
variable {X:Cx}{o i e value:Expr}{pos pos' tpos:Pos}{td ty tv:TE}
end
section
variable {X:Cx}{pos:Pos}
end
section
variable {X:Cx}{pins:U1}{σ:St}{H:Hp}{s:U7}{a:Y0}{y d:V}{u r:W2}{o:Option V}{A:W7}{E:U2}
end
section
variable {X:Cx}{o e f:Expr}{apos cpos:Pos}{td ty tx:TE}
end
end L2
namespace L2
def Hs (i j:Int):Prop:=∃a b,Sz a i/\Sz b j/\a+b<=100000000
theorem Hs.ok{i j:Int}(h:Hs i j):IntMulOk i j:=by
 obtain⟨a,b,h1,h2,e⟩:=h;have c:=h1.bits;have d:=h2.bits;unfold IntMulOk
 rw[show Builtin.Int.intTooBig (Builtin.Int.intBits i+Builtin.Int.intBits j)=false by
  unfold Builtin.Int.intTooBig
  have:bitsLine=134217728:=rfl
  rw[this]
  exact FZ (by omega)]
 simp
section
variable {X:Cx}
theorem Ld:C_ X (binaryOp .Mult) (rI Hs λi j=>.int (i*j)):=NZ λ_ _ _ _ _ _ _ a q=>mul_int q a.ok
theorem lO(hc:X.calm=true):CJ X (.builtin "all") (λxs H Q=>∃(p:Y0) (bs:List Bool),xs=[.ref p]/\Af X.K H p (bs.map V.bl)/\Q (.bl (bs.all id)) H):=by
 intro pins s σ H xs us Q I r h;obtain⟨p,bs,rfl,t,q⟩:=h;obtain⟨u,rfl,f⟩:=r.one;cases f;obtain⟨its,k,pl,y⟩:=I.list t;have a:its.length=bs.length:=by rw[<-k.length,BJ]
 refine call_all_walk (Og pl.isList ?_)
 have W:=Walks.list (prog:=X.prog) (w:=X.w) (A:=X.A.in1) (show X.A.in1.handled=none from I.ok.hd hc) s.heap.objs.size p (by
  obtain⟨o,e,_⟩:=pl.isList
  exact Cw (Bv e)) its.toArray
 refine⟨s.heap.objs.size,_,_,_,_,_,λi=>bs.getD i false,U,W,⟨⟨_,Ej _ rfl,U,U⟩,pl.isList.push _⟩,?_,λh' tk n=>?_⟩
 ·intro i v s' B x l m;have c:its[i]?=some v:=by simpa using l
  have hi:i<bs.length:=by rw[<-a];exact(Fb.mp c).1
  obtain⟨u,j,f⟩:=k.get (show (bs.map V.bl)[i]?=some (.bl (bs.getD i false)) by simp[hi]);rw[c]at j;cases j;cases f;exact Lx m
 ·have e:(List.range its.toArray.size).all (λi=>bs.getD i false)=bs.all id:=by
   rw[Eb,a,Pn,J1,J1];constructor
   ·intro z b hb;obtain⟨i,hi,rfl⟩:=List.mem_iff_getElem.mp hb;have:=z i (Fq.mpr hi);simpa [hi] using this
   ·intro z i hi;have d:i<bs.length:=Fq.mp hi;have:=z bs[i] (Vt d);simpa [d] using this
  rw[e];refine⟨.bl (bs.all id),H,?_,U,q⟩;exact I.kept (t':=tk) λb o g=>n b o (by simp;exact Cw (Bv g)) (Df _ g)
end
section
variable {P:U8}{w:W1}{H:Hp}{h:Heap}
end
section
variable {X:Cx}
end
section
variable {X:Cx}{scope:Scope}{Nc:W0}{ex:U3}{pins:U1}{s:U7}{H:Hp}
theorem Y7o(hu:X.A.units+64<cLine):C_ (Aw X scope Nc ex pins s H) (compareOp .Eq) (Ja X.K false):=X2j hu
end
end L2
namespace Ba
open L2 Am Pc
noncomputable abbrev T5 (a b c d h:Int):HO:=.tup [.int a,.int b,.int c,.int d,.int h]
structure Red (a b c d h x y z u g:Int):Prop where
 amt:Fx x y z u g
 same:CG a b c d h x y z u g
 s1:x.natAbs<=a.natAbs
 s2:y.natAbs<=b.natAbs
 s3:z.natAbs<=c.natAbs
 s4:u.natAbs<=d.natAbs
 le:g<=h
structure Gw (n:Nat) (a b c d:Int):Prop where
 z1:Sz n a
 z2:Sz n b
 z3:Sz n c
 z4:Sz n d
variable{n:Nat}
theorem Red.sz{a b c d h x y z u g:Int}(r:Red a b c d h x y z u g)(s:Gw n a b c d):Gw n x y z u:=⟨s.z1.le r.s1,s.z2.le r.s2,s.z3.le r.s3,s.z4.le r.s4⟩
theorem Gw.mono{m:Nat}{a b c d:Int}(s:Gw m a b c d)(h:m<=n):Gw n a b c d:=⟨s.z1.mono h,s.z2.mono h,s.z3.mono h,s.z4.mono h⟩
noncomputable def Bb:Nat->Int×Int×Int×Int->Int×Int×Int×Int
 | 0,v=>v
 | n+1,v=>let (a,b,c,d):=Bb n v;(-d,a,b,c)
noncomputable abbrev T4 (v:Int×Int×Int×Int)(h:Int):HO:=T5 v.1 v.2.1 v.2.2.1 v.2.2.2 h
abbrev A5:=(Int×Int×Int×Int)×Int
noncomputable abbrev tA (x:A5):HO:=T4 x.1 x.2
noncomputable def Bk (x:A5)(k:Int):A5:=(Bb (k%8).toNat x.1,x.2)
structure Em (n:Nat) (m:Int) (x:A5):Prop where
 sz:Gw n x.1.1 x.1.2.1 x.1.2.2.1 x.1.2.2.2
 amt:Fx x.1.1 x.1.2.1 x.1.2.2.1 x.1.2.2.2 x.2
 le:x.2<=m
theorem Em.mono{n':Nat}{m m':Int}{x:A5}(o:Em n m x)(h:n<=n')(h':m<=m'):Em n' m' x:=⟨o.sz.mono h,o.amt,Rh o.le h'⟩
theorem mO{n:Nat}{m:Int}{v:Int×Int×Int×Int}{h:Int}(o:Em n m (v,h)):∀k,Em n m (Bb k v,h)
 | 0=>o
 | k+1=>by
  have:=mO o k;show Em n m ((-(Bb k v).2.2.2,(Bb k v).1,(Bb k v).2.1,(Bb k v).2.2.1),h);refine⟨⟨this.sz.z4.neg,this.sz.z1,this.sz.z2,this.sz.z3⟩,⟨this.amt.nn,?_⟩,this.le⟩;have o:h=0\/(Bb k v).1%2=1\/(Bb k v).2.1%2=1\/(Bb k v).2.2.1%2=1\/(Bb k v).2.2.2%2=1:=this.amt.odd;show h=0\/(-(Bb k v).2.2.2)%2=1\/(Bb k v).1%2=1\/(Bb k v).2.1%2=1\/(Bb k v).2.2.1%2=1;omega
noncomputable def l5 (x:A5):List Int:=[x.1.1,x.1.2.1,x.1.2.2.1,x.1.2.2.2,x.2]
noncomputable def cell (ns:U6)(i:Int):Int:=if i<ns.length then ns.getD i.toNat 0 else 0
def FQ:Sp:=λvs H Q _=>∃n:Nat,vs=[.int n]/\Q (.int (pc n)) H
def Ke (K:U0):Sp:=λvs H Q _=>∃(a:Y0) (ns:U6) (i:Int),vs=[.ref a,.int i]/\Af K H a (ns.map V.int)/\0<=i/\Q (.int (cell ns i)) H
def K5:Sp:=λvs H Q _=>∃i:Int,vs=[.int i]/\Q (.bl true) H
theorem X8a{ns:U6}{i:Int}(h0:0<=i)(h:i<ns.length):Ez (ns.map V.int) i=some (.int (ns.getD i.toNat 0)):=by
 have a:i.toNat<ns.length:=by omega
 have b:i=((i.toNat:Nat):Int):=by omega
 have q:Ez (ns.map V.int) ((i.toNat:Nat):Int)=some (.int ns[i.toNat]):=O_ (by rw[Dw,Gp a]<;>rfl);rw[<-b]at q;rw[q,Kq,Gp a];rfl
theorem t2:2<=sizeLine:=by decide
theorem t3:3<=sizeLine:=by decide
theorem t5:5<=sizeLine:=by decide
theorem Jy(h:n<=64):n<=sizeLine:=Cv h (by decide)
theorem HJ(h:n<=6):2^n<=64:=Cv (QC (by decide) h) (by decide)
theorem ipow(n:Nat):(1:Int)*2^((n:Int).toNat)=((2^n:Nat):Int):=by simp
theorem N7:Sz 1 1:=by decide +kernel
theorem XD(K:U0):PySem.W.kitOne K (.type "tuple") (.type "tuple")=some true:=by unfold PySem.W.kitOne;rw[if_pos (by decide)]
theorem mK(K:U0):PySem.W.kitOne K (.type "list") (.type "list")=some true:=by unfold PySem.W.kitOne;rw[if_pos (by decide)]
end Ba
namespace Ai
open L2 Am Pc Ba
noncomputable def top (i:Nat):Stmt:=PySem.Challenge.pw_spinboard_k93_whole_there_and_back.main.body.getD i (.Pass ⟨0,0,0,0⟩)
structure Bs (mg:U4):Prop where
 isinstance:mg "isinstance"=none
 int:mg "int"=none
 bool:mg "bool"=none
 tuple:mg "tuple"=none
 list:mg "list"=none
 len:mg "len"=none
 range:mg "range"=none
 all:mg "all"=none
 any:mg "any"=none
 max:mg "max"=none
 min:mg "min"=none
 zip:mg "zip"=none
 set:mg "set"=none
 str:mg "str"=none
 enumerate:mg "enumerate"=none
 reversed:mg "reversed"=none
 sorted:mg "sorted"=none
 sum:mg "sum"=none
 abs:mg "abs"=none
section
variable {P:U8}{w:W1}{K:U0}{mg:U4}{base:Heap}{k:Nat}{h:Heap}
theorem X3g(F:Aa K "_law_cell_at" (top 140) .none)(X:K.In h)(G:Ng h mg)(B:Bs mg):Ag P w K mg base (k+1) "_law_cell_at" ["_law_script","_law_k"] (Ke K):=by
 refine F.cal X G ["_law_script","_law_k"] λf H vs Q E g h=>?_;obtain⟨a,ns,i,rfl,d,e,q⟩:=h
 refine⟨_,(@Ak _ _ _ _ _ (CQ (Bq Nk (pv 1) (Cm IW rfl B.len Fz (Ab (pv 0) Ae)) (Ac _))
   (@Aj _ _ _ (Ay (Al DK (pv 0) (pv 1) (λ_ _=>rfl))))
   CT)
  (@Aj _ _ _ (Ay Ad))),?_⟩
 try dsimp only[Bg]
 have b:(ns.map V.int).length=ns.length:=BJ _;refine⟨_,U,_,U,a,_,U,.inl d,_,_,U,U,_,U,BX (λc=>?_) (λc=>?_)⟩
 ·rw[b]at c;refine⟨_,U,_,U,a,_,_,_,U,U,d,X8a e c,?_⟩;unfold cell at q;rw[if_pos c]at q;exact q
 ·rw[b]at c;unfold cell at q;rw[if_neg c]at q;exact q
theorem Y7q(F:Aa K "_law_whole" (top 141) .none)(X:K.In h)(G:Ng h mg)(B:Bs mg):Ag P w K mg base (k+1) "_law_whole" ["_law_found"] K5:=by
 refine F.cal X G ["_law_found"] λa H vs Q E b h=>?_;obtain⟨i,rfl,q⟩:=h;refine⟨_,(@Aj _ _ _ (Ay (Nr (Cm J7 rfl B.isinstance Ik (Ab (pv 0) (Ab (I_ (v:=.ty "int") rfl B.int RZ rfl) Ae))) (Lb (wz (Cm J7 rfl B.isinstance Ik (Ab (pv 0) (Ab (I_ (v:=.ty "bool") rfl B.bool boot_bool rfl) Ae)))))))),?_⟩;try dsimp only[Bg]
 refine⟨_,U,_,_,_,true,U,CZ.int i,wR K,_,U,DQ ?_⟩;exact⟨_,U,_,_,_,false,U,CZ.int i,wQ K,_,U,q⟩
end
end Ai
noncomputable section
namespace Ai
open L2
namespace Hd
open PySem.W
set_option maxHeartbeats 0
noncomputable abbrev pr:Program:=PySem.Challenge.pw_spinboard_k93_whole_there_and_back
abbrev kh:=PyData.keyHash
noncomputable def jo (s:Stmt):Pos:=match s with
 | .FunctionDef _ _ _ _ _ _ _ _ _ p=>p
 | _=>⟨0,0,0,0⟩
noncomputable def life:Life:=(Life.mk [] [] [] 0 [] [] false #[] [] 0 false false false 0 [2000,10,10] false 0 true [] [] 0 false)
noncomputable def en:Env:={ scope:=pr.main.scope,locals:=mainNs,globals:=mainNs,cells:=[],code:=(.ref 13),frame:=some 14}
noncomputable def dn (P:Params)(x:Str)(t:Nat)(v:W2):DictEntry:=DictEntry.mk (kh P x) (.str x t) v
noncomputable def DW (n:Str)(t1:Nat)(q:Str)(t2 t3:Nat)(i1 i2 i3 i4 i5:Int)(r1:Y0)(b:Bool)(i6:Int)(r2:Y0)(v1 v2 v3:W2)(i7 i8:Int)(t4:Nat):Obj:=Obj.mk (.type "code") none (Data.fields #[.str n t1,.str q t2,.str "/claim/cut.py" t3,.int i1 0,.int i2 0,.int i3 0,.int i4 0,.int i5 0,.ref r1,.bool b,.int i6 0,.ref r2,.none,v1,v2,v3,.int i7 0,.int i8 0,.str "/claim/cut.py" t4]) #[]
noncomputable def Ey (n q:Str)(s:Stmt)(k j:Nat):Obj:=Obj.mk .none none (Data.func (FuncData.mk n q (Cr s) (FuncBody.stmts (Cj s)) (Bh s) k [] .none .none .none .none none .none .none j)) #[]
noncomputable def Gf (n q:Str)(s:Stmt)(k:Nat)(m:Str)(t:Nat)(c:Y0)(j:Nat):Obj:=Obj.mk (.type "function") none (Data.func (FuncData.mk n q (Cr s) (FuncBody.stmts (Cj s)) (Bh s) k [] .none .none .none (.str m t) none (.ref c) .none j)) #[]
noncomputable def Jz (T:String)(n:Nat):Obj:=Obj.mk (.type T) none (Data.seq #[] n) #[]
noncomputable def tq (a:U9):Obj:=Obj.mk (.type "tuple") none (Data.seq a 0) #[]
noncomputable def Dm:Obj:=Obj.mk .none none (Data.fields #[]) #[]
abbrev Pz:=Params
noncomputable abbrev tz:Obj:=Jz "tuple" 0
noncomputable def iL (t:BT):List (Nat×Obj)->BT
 | []=>t
 | x::l=>iL (t.ins x.1 x.2) l
noncomputable def iF (t:BT):Nat->List Obj->BT
 | _,[]=>t
 | n,x::l=>iF (t.ins n x) (n+1) l
noncomputable def DP (l:List DictEntry)(n:Nat):Obj:=Obj.mk (.type "dict") none (Data.dict (Array.mk l) n) #[]
noncomputable def Cp (l:U5):Obj:=Obj.mk .none none (Data.fields (Array.mk l)) #[]
noncomputable def nt:Nat->List Str->List Value
 | _,[]=>[]
 | t,x::l=>.str x t::nt (t+1) l
noncomputable def dd (m:Str)(mt:Nat)(n:Str)(i:Nat)(l k:Int)(a t:Nat):List Str->List Obj
 | []=>[tz,Dm,Ey n n (top i) 0 0,DW n t n (t+1) (t+2) l k 0 0 3 a true 181 (a+1) .none .none (.ref (a+2)) ((t+3:Nat):Int) l (t+4),Gf n n (top i) 3 m mt (a+3) 0]
 | x::xs=>[tz,Dm,Obj.mk (.type "tuple") none (Data.seq (Array.mk (nt (t+3) (x::xs))) 0) #[],tz,Ey n n (top i) 0 0,DW n t n (t+1) (t+2) l k 0 0 3 a true 181 (a+1) (.ref (a+2)) (.ref (a+3)) (.ref (a+4)) ((t+4+xs.length:Nat):Int) l (t+5+xs.length),Gf n n (top i) 3 m mt (a+5) 0]
noncomputable def co (n:Str)(A t:Nat):Obj:=Obj.mk (.type "type") none (Data.cls (ClassData.mk n [(.ref 31)] [(.ref (A+9)),(.ref 31),(.type "ValueError"),(.type "Exception"),(.type "BaseException"),(.type "object")] (A+8) n true [] [] false none false)) #[(some (.ref A)),none,(some (.str n t)),(some (.str n (t+8))),(some (.builtin "ValueError.__new__")),(some (.bool true))]
noncomputable def LQ (l:W3):Obj:=Obj.mk (.type "type") none (Data.cls (ClassData.mk "BoardError" [(.type "ValueError")] [(.ref 31),(.type "ValueError"),(.type "Exception"),(.type "BaseException"),(.type "object")] 30 "BoardError" true [] (l.map Value.ref) false none false)) #[(some (.ref 22)),none,(some (.str "BoardError" 196)),(some (.str "BoardError" 204)),(some (.builtin "ValueError.__new__")),(some (.bool true))]
noncomputable def zH (n:Str)(i:Nat)(l k:Int)(a t:Nat)(ns:W0):List Obj:=dd "__main__" 164 n i l k a t ns
noncomputable def QH (n:Str)(i:Nat)(l k:Int)(a t:Nat)(ns:W0):List Obj:=dd "spinboard.shares" 376 n i l k a t ns
noncomputable def Oz (n:Str)(i:Nat)(l k:Int)(a t:Nat)(ns:W0):List Obj:=dd "spinboard.amounts" 441 n i l k a t ns
noncomputable def Ma (n:Str)(i:Nat)(l k:Int)(a t:Nat)(ns:W0):List Obj:=dd "spinboard.marks" 515 n i l k a t ns
noncomputable def Tz (n:Str)(i:Nat)(l k:Int)(a t:Nat)(ns:W0):List Obj:=dd "spinboard.boards" 596 n i l k a t ns
noncomputable def Ox (n:Str)(i:Nat)(l k:Int)(a t:Nat)(ns:W0):List Obj:=dd "spinboard.looks" 658 n i l k a t ns
noncomputable def Nj (n:Str)(i:Nat)(l k:Int)(a t:Nat)(ns:W0):List Obj:=dd "spinboard.moves" 716 n i l k a t ns
noncomputable def zG (n:Str)(i:Nat)(l k:Int)(a t:Nat)(ns:W0):List Obj:=dd "spinboard.rows" 802 n i l k a t ns
noncomputable def V_ (n:Str)(i:Nat)(l k:Int)(a t:Nat)(ns:W0):List Obj:=dd "spinboard.bits" 814 n i l k a t ns
noncomputable def J3 (n:Str)(i:Nat)(l k:Int)(a t:Nat)(ns:W0):List Obj:=dd "spinboard.tables" 853 n i l k a t ns
noncomputable def UG (n:Str)(i:Nat)(l k:Int)(a t:Nat)(ns:W0):List Obj:=dd "spinboard.spreads" 944 n i l k a t ns
noncomputable def Ed (n:Str)(i:Nat)(l k:Int)(a t:Nat)(ns:W0):List Obj:=dd "spinboard.tableturns" 958 n i l k a t ns
noncomputable def T_ (n:Str)(i:Nat)(l k:Int)(a t:Nat)(ns:W0):List Obj:=dd "spinboard.holders" 1087 n i l k a t ns
noncomputable def Mg (n:Str)(i:Nat)(l k:Int)(a t:Nat)(ns:W0):List Obj:=dd "spinboard.rowtexts" 1311 n i l k a t ns
noncomputable def Mf (n:Str)(i:Nat)(l k:Int)(a t:Nat)(ns:W0):List Obj:=dd "spinboard.plays" 1341 n i l k a t ns
noncomputable def Kz (n:Str)(i:Nat)(l k:Int)(a t:Nat)(ns:W0):List Obj:=dd "spinboard.desk" 1393 n i l k a t ns
noncomputable abbrev Ov (n:Str)(i c:Nat):Obj:=Gf n n (top i) 3 "law_spinboard_k93_whole_there_and_back" 1455 c 0
noncomputable def Jt (n:Str)(i:Nat)(l k:Int)(a t:Nat)(ns:W0):List Obj:=dd "law_spinboard_k93_whole_there_and_back" 1455 n i l k a t ns
def jU(P:Pz):=(DW "<module>" 182 "<module>" 183 184 1 0 0 0 0 11 false 181 12 .none .none .none 185 1 186)
noncomputable def jK(P:Pz):=Obj.mk (.type "frame") none Data.plain #[(some (.ref 13)),(some (.ref 3)),(some (.ref 3)),none,(some (.str "__main__" 164)),none,(some (.ref 0))]
def Ha (P:Pz):Heap:=Heap.mk (Array.mk [boot_o_0 P,boot_o_1 P,boot_o_2 P,boot_o_3 P,boot_o_4 P,boot_o_5 P,boot_o_6 P,boot_o_7 P,boot_o_8 P,boot_o_9 P,boot_o_10 P,tz,Dm,jU P,jK P]) life
def T0 (P:Pz):BT:=(.node (boot_o_0 P) (.node (boot_o_1 P) (.node (boot_o_3 P) (.node (boot_o_7 P) .nil .nil) (.node tz .nil .nil)) (.node (boot_o_5 P) (.node (boot_o_9 P) .nil .nil) (.node (jU P) .nil .nil))) (.node (boot_o_2 P) (.node (boot_o_4 P) (.node (boot_o_8 P) .nil .nil) (.node Dm .nil .nil)) (.node (boot_o_6 P) (.node (boot_o_10 P) .nil .nil) (.node (jK P) .nil .nil))))
noncomputable def l0:List Stmt:=[top 0,top 1,top 2]
noncomputable def l1:List Stmt:=[top 3]
noncomputable def l2:List Stmt:=[top 4]
noncomputable def l3:List Stmt:=[top 5]
noncomputable def l4:List Stmt:=[top 6]
noncomputable def l5:List Stmt:=[top 7]
noncomputable def l6:List Stmt:=[top 8]
noncomputable def l7:List Stmt:=[top 9]
noncomputable def l8:List Stmt:=[top 10]
noncomputable def l9:List Stmt:=[top 11,top 12,top 13,top 14,top 15,top 16]
noncomputable def l10:List Stmt:=[top 17,top 18,top 19,top 20,top 21,top 22,top 23,top 24,top 25,top 26,top 27,top 28,top 29,top 30,top 31]
noncomputable def pU:List Stmt:=[top 32,top 33,top 34,top 35,top 36,top 37,top 38,top 39,top 40,top 41,top 42,top 43,top 44,top 45,top 46]
noncomputable def pR:List Stmt:=[top 47,top 48,top 49,top 50,top 51,top 52,top 53,top 54,top 55,top 56,top 57,top 58,top 59]
noncomputable def R9:List Stmt:=[top 60,top 61,top 62,top 63,top 64,top 65,top 66,top 67,top 68,top 69,top 70]
noncomputable def pQ:List Stmt:=[top 71,top 72,top 73,top 74,top 75,top 76,top 77,top 78,top 79,top 80,top 81,top 82,top 83,top 84,top 85,top 86]
noncomputable def pP:List Stmt:=[top 87,top 88,top 89,top 90,top 91,top 92,top 93,top 94,top 95,top 96,top 97,top 98,top 99,top 100,top 101,top 102,top 103]
noncomputable def pO:List Stmt:=[top 104,top 105,top 106,top 107,top 108,top 109,top 110,top 111,top 112]
noncomputable def pN:List Stmt:=[top 113]
noncomputable def pL:List Stmt:=[top 114]
noncomputable def pK:List Stmt:=[top 115]
noncomputable def pJ:List Stmt:=[top 116,top 117,top 118,top 119,top 120,top 121,top 122,top 123,top 124,top 125,top 126,top 127,top 128,top 129,top 130,top 131,top 132]
noncomputable def pI:List Stmt:=[top 133,top 134,top 135,top 136,top 137,top 138,top 139,top 140,top 141,top 142,top 143,top 144,top 145]
noncomputable def bE:List Stmt:=l0++(l1++(l2++(l3++(l4++(l5++(l6++(l7++(l8++(l9++(l10++(pU++(pR++(R9++(pQ++(pP++(pO++(pN++(pL++(pK++(pJ++(pI++[])))))))))))))))))))))
noncomputable abbrev cE:Code:=Code.body bE en
noncomputable abbrev BB:List Frame:=[topFrame (Pos.mk 0 0 0 0)]
theorem ZD(w:W1)(os:OsState):topGo treeTable pr w 11 (some (.ref 6)) 12 (Shared.mk (boot_heap w.params) (Array.mk []) boot_drawn boot_toks os) (topStub pr)=some (Shared.mk (Ha w.params) (Array.mk []) (Drawn.mk 0 0 0 0) 187 os,Thread.mk (denote treeTable cE) cE (Pos.mk 0 0 0 0) BB):=by rw[PySem.W.Fast.te15667345088766844465,PySem.W.Fast.te11892475500146522536,PySem.W.Fast.te14364793385576792824];kernel_rfl
theorem X7x(w:W1)(os:OsState):segRun treeTable pr w 11 (some (.ref 6)) 1 1 (Shared.mk (Ha w.params) (Array.mk []) (Drawn.mk 0 0 0 0) 187 os) (blockOf bE en cE (Pos.mk 0 0 0 0) BB)=some (Flow.next,(SharedT.mk (T0 w.params) 15 life (Array.mk []) (Drawn.mk 0 0 0 0) 187 os).abs,cE,(Pos.mk 0 0 0 0)):=by rw[PySem.W.Fast.te14374325043358763698,PySem.W.Fast.te14364793385576792824];kernel_rfl
noncomputable def Qx(P:Pz):List DictEntry:=[(dn P "__doc__" 166 .none),(dn P "__package__" 167 .none),(dn P "__loader__" 168 (.builtin "__main__.__loader__#opaque")),(dn P "__spec__" 169 .none),(dn P "__annotations__" 170 (.ref 6)),(dn P "__builtins__" 171 (.ref 4)),(dn P "__file__" 173 (.str "/claim/cut.py" 172)),(dn P "__cached__" 174 .none),(dn P "_wall" 193 (.ref 21)),(dn P "BoardError" 213 (.ref 31))]
def iJ(P:Pz):=DP ((dn P "__name__" 165 (.str "spinboard.errors" 194))::Qx P) 11
noncomputable def vO(P:Pz):List Value:=[(.int 1 0),(.int 0 0),(.ref 20),(.int 5 0),(.int 0 0),(.ref 27)]
def X9s(P:Pz):=Cp (vO P)
def yW(P:Pz):=tq #[(.type "ValueError")]
noncomputable def Ol(P:Pz):=Obj.mk (.type "builtin_function_or_method") none (Data.fields #[(.builtin "type.__prepare__"),(.type "type")]) #[]
def yV(P:Pz):=DP [(dn P "__module__" 203 (.str "spinboard.errors" 194)),(dn P "__qualname__" 205 (.str "BoardError" 204)),(dn P "__firstlineno__" 207 (.int 5 206)),(dn P "__static_attributes__" 208 (.ref 29))] 4
def yU(P:Pz):=(DW "BoardError" 198 "BoardError" 199 200 5 0 0 0 0 25 false 181 26 .none .none .none 201 5 202)
noncomputable def yS(P:Pz):=Obj.mk (.type "frame") none Data.plain #[(some (.ref 27)),(some (.ref 3)),(some (.ref 24)),none,(some (.str "spinboard.errors" 194)),none,(some (.ref 0))]
def yR(P:Pz):=DP [(dn P "__module__" 203 (.str "spinboard.errors" 194)),(dn P "__firstlineno__" 207 (.int 5 206)),(dn P "__static_attributes__" 208 (.ref 29)),(dn P "__weakref__" 210 (.ref 32)),(dn P "__doc__" 211 .none)] 3
def X9k(P:Pz):=LQ []
noncomputable def yQ(P:Pz):=Obj.mk (.type "getset_descriptor") none (Data.fields #[(.str "__weakref__" 209),(.ref 31),(.builtin "ExceptionGroup.__weakref__"),.none]) #[]
noncomputable def yP(P:Pz):=Obj.mk (.type "super") none (Data.fields #[(.ref 31),(.ref 31),(.ref 31)]) #[]
noncomputable def yO(P:Pz):=Obj.mk (.type "builtin_function_or_method") none (Data.fields #[(.builtin "object.__init_subclass__"),(.ref 31)]) #[]
def x1(P:Pz):List Obj:=zH "_wall" 0 1 1 15 187 ["k"]++([yW P,Ol P,yV P,tz,Dm,yU P,yS P,tz,yR P,X9k P,yQ P,yP P,yO P])
def T1 (P:Pz):BT:=iF (iL (T0 P) [(3,iJ P),(12,X9s P)]) 15 (x1 P)
abbrev gs (p:U8)(b:W9)(w:W1)(os:OsState)(k:Nat)(T:Pz->BT)(n t:Nat)(l:W9)(q:Pos)(T':Pz->BT)(n' t':Nat)(q':Pos):Prop:=segRunT treeTable p w 11 (some (.ref 6)) 1 k (SharedT.mk (T w.params) n life (Array.mk []) (Drawn.mk 0 0 0 0) t os) (piecesOf l en (Code.body b en) q BB)=some (Flow.next,(SharedT.mk (T' w.params) n' life (Array.mk []) (Drawn.mk 0 0 0 0) t' os),Code.body b en,q')
theorem g0(p:U8)(b:W9)(w:W1)(os:OsState):gs p b w os 225 T0 15 187 l0 (Pos.mk 0 0 0 0) T1 35 214 (Pos.mk 5 0 6 8):=by unfold gs;rw[PySem.W.Fast.te10110043849684766642,PySem.W.Fast.te14364793385576792824];kernel_rfl
def Qw(P:Pz):List DictEntry:=Qx P++[(dn P "NoShare" 229 (.ref 44))]
def iI(P:Pz):=DP ((dn P "__name__" 165 (.str "spinboard.errors" 194))::Qw P) 12
def vP(P:Pz):List Value:=vO P++[(.int 7 0),(.int 0 0),(.ref 40)]
def X9r(P:Pz):=Cp (vP P)
def X9j(P:Pz):=LQ [44]
def iK(P:Pz):=tq #[(.ref 31)]
def cc (P:Pz)(n:Str)(l:Int)(A t:Nat):List Obj:=[iK P,Ol P,DP [(dn P "__module__" (t+7) (.str "spinboard.errors" 194)),(dn P "__qualname__" (t+9) (.str n (t+8))),(dn P "__firstlineno__" (t+11) (.int l (t+10))),(dn P "__static_attributes__" (t+12) (.ref (A+7)))] 4,tz,Dm,DW n (t+2) n (t+3) (t+4) l 0 0 0 0 (A+3) false 181 (A+4) .none .none .none ((t+5:Nat):Int) l (t+6),Obj.mk (.type "frame") none Data.plain #[(some (.ref (A+5))),(some (.ref 3)),(some (.ref (A+2))),none,(some (.str "spinboard.errors" 194)),none,(some (.ref 0))],tz,DP [(dn P "__module__" (t+7) (.str "spinboard.errors" 194)),(dn P "__firstlineno__" (t+11) (.int l (t+10))),(dn P "__static_attributes__" (t+12) (.ref (A+7))),(dn P "__doc__" (t+13) .none)] 2,co n A t,Obj.mk (.type "super") none (Data.fields #[(.ref (A+9)),(.ref (A+9)),(.ref (A+9))]) #[],Obj.mk (.type "builtin_function_or_method") none (Data.fields #[(.builtin "object.__init_subclass__"),(.ref (A+9))]) #[]]
def x2(P:Pz):List Obj:=cc P "NoShare" 7 35 214
def T2 (P:Pz):BT:=iF (iL (T1 P) [(3,iI P),(12,X9r P),(31,X9j P)]) 35 (x2 P)
theorem g1(p:U8)(b:W9)(w:W1)(os:OsState):gs p b w os 214 T1 35 214 l1 (Pos.mk 5 0 6 8) T2 47 230 (Pos.mk 7 0 8 8):=by unfold gs;rw[PySem.W.Fast.te10110043849684766642,PySem.W.Fast.te14364793385576792824];kernel_rfl
def Qv(P:Pz):List DictEntry:=Qw P++[(dn P "NoMark" 245 (.ref 56))]
def iH(P:Pz):=DP ((dn P "__name__" 165 (.str "spinboard.errors" 194))::Qv P) 13
def vQ(P:Pz):List Value:=vP P++[(.int 9 0),(.int 0 0),(.ref 52)]
def X9q(P:Pz):=Cp (vQ P)
def X9i(P:Pz):=LQ [44,56]
def x3(P:Pz):List Obj:=cc P "NoMark" 9 47 230
def T3 (P:Pz):BT:=iF (iL (T2 P) [(3,iH P),(12,X9q P),(31,X9i P)]) 47 (x3 P)
theorem g2(p:U8)(b:W9)(w:W1)(os:OsState):gs p b w os 214 T2 47 230 l2 (Pos.mk 7 0 8 8) T3 59 246 (Pos.mk 9 0 10 8):=by unfold gs;rw[PySem.W.Fast.te10110043849684766642,PySem.W.Fast.te14364793385576792824];kernel_rfl
def Qu(P:Pz):List DictEntry:=Qv P++[(dn P "NoBoard" 261 (.ref 68))]
def iG(P:Pz):=DP ((dn P "__name__" 165 (.str "spinboard.errors" 194))::Qu P) 14
def vR(P:Pz):List Value:=vQ P++[(.int 11 0),(.int 0 0),(.ref 64)]
def X9p(P:Pz):=Cp (vR P)
def X9h(P:Pz):=LQ [44,56,68]
def x4(P:Pz):List Obj:=cc P "NoBoard" 11 59 246
def T4 (P:Pz):BT:=iF (iL (T3 P) [(3,iG P),(12,X9p P),(31,X9h P)]) 59 (x4 P)
theorem g3(p:U8)(b:W9)(w:W1)(os:OsState):gs p b w os 214 T3 59 246 l3 (Pos.mk 9 0 10 8) T4 71 262 (Pos.mk 11 0 12 8):=by unfold gs;rw[PySem.W.Fast.te10110043849684766642,PySem.W.Fast.te14364793385576792824];kernel_rfl
def Qt(P:Pz):List DictEntry:=Qu P++[(dn P "NoMove" 277 (.ref 80))]
def iD(P:Pz):=DP ((dn P "__name__" 165 (.str "spinboard.errors" 194))::Qt P) 15
def vU(P:Pz):List Value:=vR P++[(.int 13 0),(.int 0 0),(.ref 76)]
def X9o(P:Pz):=Cp (vU P)
def X9g(P:Pz):=LQ [44,56,68,80]
def x5(P:Pz):List Obj:=cc P "NoMove" 13 71 262
def T5 (P:Pz):BT:=iF (iL (T4 P) [(3,iD P),(12,X9o P),(31,X9g P)]) 71 (x5 P)
theorem g4(p:U8)(b:W9)(w:W1)(os:OsState):gs p b w os 214 T4 71 262 l4 (Pos.mk 11 0 12 8) T5 83 278 (Pos.mk 13 0 14 8):=by unfold gs;rw[PySem.W.Fast.te10110043849684766642,PySem.W.Fast.te14364793385576792824];kernel_rfl
def Qs(P:Pz):List DictEntry:=Qt P++[(dn P "NoCell" 293 (.ref 92))]
def iC(P:Pz):=DP ((dn P "__name__" 165 (.str "spinboard.errors" 194))::Qs P) 16
def vV(P:Pz):List Value:=vU P++[(.int 15 0),(.int 0 0),(.ref 88)]
def X9n(P:Pz):=Cp (vV P)
def X9f(P:Pz):=LQ [44,56,68,80,92]
def x6(P:Pz):List Obj:=cc P "NoCell" 15 83 278
def T6 (P:Pz):BT:=iF (iL (T5 P) [(3,iC P),(12,X9n P),(31,X9f P)]) 83 (x6 P)
theorem g5(p:U8)(b:W9)(w:W1)(os:OsState):gs p b w os 214 T5 83 278 l5 (Pos.mk 13 0 14 8) T6 95 294 (Pos.mk 15 0 16 8):=by unfold gs;rw[PySem.W.Fast.te10110043849684766642,PySem.W.Fast.te14364793385576792824];kernel_rfl
def Qq(P:Pz):List DictEntry:=Qs P++[(dn P "NeverSo" 309 (.ref 104))]
def iB(P:Pz):=DP ((dn P "__name__" 165 (.str "spinboard.errors" 194))::Qq P) 17
def vW(P:Pz):List Value:=vV P++[(.int 17 0),(.int 0 0),(.ref 100)]
def X9m(P:Pz):=Cp (vW P)
def X9e(P:Pz):=LQ [44,56,68,80,92,104]
def x7(P:Pz):List Obj:=cc P "NeverSo" 17 95 294
def T7 (P:Pz):BT:=iF (iL (T6 P) [(3,iB P),(12,X9m P),(31,X9e P)]) 95 (x7 P)
theorem g6(p:U8)(b:W9)(w:W1)(os:OsState):gs p b w os 214 T6 95 294 l6 (Pos.mk 15 0 16 8) T7 107 310 (Pos.mk 17 0 18 8):=by unfold gs;rw[PySem.W.Fast.te10110043849684766642,PySem.W.Fast.te14364793385576792824];kernel_rfl
def Qp(P:Pz):List DictEntry:=Qq P++[(dn P "NoTable" 325 (.ref 116))]
def h_(P:Pz):=DP ((dn P "__name__" 165 (.str "spinboard.errors" 194))::Qp P) 18
def vX(P:Pz):List Value:=vW P++[(.int 19 0),(.int 0 0),(.ref 112)]
def X9l(P:Pz):=Cp (vX P)
def X9d(P:Pz):=LQ [44,56,68,80,92,104,116]
def x8(P:Pz):List Obj:=cc P "NoTable" 19 107 310
def T8 (P:Pz):BT:=iF (iL (T7 P) [(3,h_ P),(12,X9l P),(31,X9d P)]) 107 (x8 P)
theorem g7(p:U8)(b:W9)(w:W1)(os:OsState):gs p b w os 214 T7 107 310 l7 (Pos.mk 17 0 18 8) T8 119 326 (Pos.mk 19 0 20 8):=by unfold gs;rw[PySem.W.Fast.te10110043849684766642,PySem.W.Fast.te14364793385576792824];kernel_rfl
def vY(P:Pz):List DictEntry:=Qp P++[(dn P "NoText" 350 (.ref 135))]
def X9c(P:Pz):=DP ((dn P "__name__" 165 (.str "spinboard.errors" 194))::vY P) 19
def xQ(P:Pz):List Value:=vX P++[(.int 21 0),(.int 0 0),(.ref 124)]
def X7m(P:Pz):=Cp (xQ P)
def X6z(P:Pz):=LQ [44,56,68,80,92,104,116,135]
def jZ(P:Pz):=DP [(dn P "__module__" 333 (.str "spinboard.errors" 194)),(dn P "__qualname__" 335 (.str "NoText" 334)),(dn P "__firstlineno__" 337 (.int 21 336)),(dn P "__init__" 345 (.ref 132)),(dn P "__static_attributes__" 347 (.ref 133))] 5
noncomputable def jY(P:Pz):=Obj.mk .none none (Data.fields #[(.int 23 0),(.int 4 0),(.ref 131)]) #[]
def jX(P:Pz):=(DW "NoText" 328 "NoText" 329 330 21 0 0 0 0 122 false 181 123 .none .none .none 331 21 332)
noncomputable def jW(P:Pz):=Obj.mk (.type "frame") none Data.plain #[(some (.ref 124)),(some (.ref 3)),(some (.ref 121)),none,(some (.str "spinboard.errors" 194)),none,(some (.ref 0))]
def jV(P:Pz):=tq #[(.str "self" 341),(.str "place" 342)]
noncomputable def jT(P:Pz):=Obj.mk .none none (Data.func (FuncData.mk "__init__" "NoText.__init__" (Cr (BP (top 10) 0)) (FuncBody.stmts (Cj (BP (top 10) 0))) (Bh (BP (top 11) 0)) 0 [] .none .none .none .none none .none .none 0)) #[]
def jR(P:Pz):=(DW "__init__" 338 "NoText.__init__" 339 340 23 2 0 0 3 126 true 181 127 (.ref 128) (.ref 129) (.ref 130) 343 23 344)
noncomputable def jQ(P:Pz):=Obj.mk (.type "function") none (Data.func (FuncData.mk "__init__" "NoText.__init__" (Cr (BP (top 10) 0)) (FuncBody.stmts (Cj (BP (top 10) 0))) (Bh (BP (top 11) 0)) 3 [] .none .none .none (.str "spinboard.errors" 194) none (.ref 131) .none 0)) #[]
def jP(P:Pz):=tq #[(.str "place" 346)]
def jO(P:Pz):=DP [(dn P "__module__" 333 (.str "spinboard.errors" 194)),(dn P "__firstlineno__" 337 (.int 21 336)),(dn P "__init__" 345 (.ref 132)),(dn P "__static_attributes__" 347 (.ref 133)),(dn P "__doc__" 348 .none)] 2
noncomputable def jN(P:Pz):=Obj.mk (.type "type") none (Data.cls (ClassData.mk "NoText" [(.ref 31)] [(.ref 135),(.ref 31),(.type "ValueError"),(.type "Exception"),(.type "BaseException"),(.type "object")] 134 "NoText" true [] [] false none false)) #[(some (.ref 119)),none,(some (.str "NoText" 326)),(some (.str "NoText" 334)),(some (.builtin "ValueError.__new__")),(some (.bool true))]
noncomputable def jM(P:Pz):=Obj.mk (.type "super") none (Data.fields #[(.ref 135),(.ref 135),(.ref 135)]) #[]
noncomputable def jL(P:Pz):=Obj.mk (.type "builtin_function_or_method") none (Data.fields #[(.builtin "object.__init_subclass__"),(.ref 135)]) #[]
def x9(P:Pz):List Obj:=[iK P,Ol P,jZ P,tz,jY P,jX P,jW P,tz,Dm,jV P,tz,jT P,jR P,jQ P,jP P,jO P,jN P,jM P,jL P]
def T9 (P:Pz):BT:=iF (iL (T8 P) [(3,X9c P),(12,X7m P),(31,X6z P)]) 119 (x9 P)
theorem g8(p:U8)(b:W9)(w:W1)(os:OsState):gs p b w os 246 T8 119 326 l8 (Pos.mk 19 0 20 8) T9 138 351 (Pos.mk 21 0 24 26):=by unfold gs;rw[PySem.W.Fast.te10110043849684766642,PySem.W.Fast.te14364793385576792824];kernel_rfl
def vZ(P:Pz):List DictEntry:=vY P++[(dn P "NotBorne" 375 (.ref 154)),(dn P "is_whole" 384 (.ref 163)),(dn P "share" 396 (.ref 171)),(dn P "common_divisor" 405 (.ref 178)),(dn P "share_times" 415 (.ref 185))]
def X9b(P:Pz):=DP ((dn P "__name__" 165 (.str "spinboard.shares" 376))::vZ P) 24
def xR(P:Pz):List Value:=xQ P++[(.int 25 0),(.int 0 0),(.ref 143),(.int 30 0),(.int 0 0),(.ref 162),(.int 32 0),(.int 0 0),(.ref 170),(.int 41 0),(.int 0 0),(.ref 177),(.int 47 0),(.int 0 0),(.ref 184)]
def X7l(P:Pz):=Cp (xR P)
def wN(P:Pz):=LQ [44,56,68,80,92,104,116,135,154]
def jJ(P:Pz):=DP [(dn P "__module__" 358 (.str "spinboard.errors" 194)),(dn P "__qualname__" 360 (.str "NotBorne" 359)),(dn P "__firstlineno__" 362 (.int 25 361)),(dn P "__init__" 370 (.ref 151)),(dn P "__static_attributes__" 372 (.ref 152))] 5
noncomputable def jH(P:Pz):=Obj.mk .none none (Data.fields #[(.int 27 0),(.int 4 0),(.ref 150)]) #[]
def jG(P:Pz):=(DW "NotBorne" 353 "NotBorne" 354 355 25 0 0 0 0 141 false 181 142 .none .none .none 356 25 357)
noncomputable def jF(P:Pz):=Obj.mk (.type "frame") none Data.plain #[(some (.ref 143)),(some (.ref 3)),(some (.ref 140)),none,(some (.str "spinboard.errors" 194)),none,(some (.ref 0))]
def jE(P:Pz):=tq #[(.str "self" 366),(.str "place" 367)]
def jD(P:Pz):=(Ey "__init__" "NotBorne.__init__" (BP (top 11) 0) 0 0)
def jC(P:Pz):=(DW "__init__" 363 "NotBorne.__init__" 364 365 27 2 0 0 3 145 true 181 146 (.ref 147) (.ref 148) (.ref 149) 368 27 369)
def jB(P:Pz):=(Gf "__init__" "NotBorne.__init__" (BP (top 11) 0) 3 "spinboard.errors" 194 150 0)
def jA(P:Pz):=tq #[(.str "place" 371)]
def i_(P:Pz):=DP [(dn P "__module__" 358 (.str "spinboard.errors" 194)),(dn P "__firstlineno__" 362 (.int 25 361)),(dn P "__init__" 370 (.ref 151)),(dn P "__static_attributes__" 372 (.ref 152)),(dn P "__doc__" 373 .none)] 2
noncomputable def iz(P:Pz):=Obj.mk (.type "type") none (Data.cls (ClassData.mk "NotBorne" [(.ref 31)] [(.ref 154),(.ref 31),(.type "ValueError"),(.type "Exception"),(.type "BaseException"),(.type "object")] 153 "NotBorne" true [] [] false none false)) #[(some (.ref 138)),none,(some (.str "NotBorne" 351)),(some (.str "NotBorne" 359)),(some (.builtin "ValueError.__new__")),(some (.bool true))]
noncomputable def iy(P:Pz):=Obj.mk (.type "super") none (Data.fields #[(.ref 154),(.ref 154),(.ref 154)]) #[]
noncomputable def iw(P:Pz):=Obj.mk (.type "builtin_function_or_method") none (Data.fields #[(.builtin "object.__init_subclass__"),(.ref 154)]) #[]
def Tn(P:Pz):=tq #[(.int 0 385),(.int 1 386)]
def iu(P:Pz):=tq #[(.str "top" 390),(.str "root" 391),(.str "bottom" 392),(.str "common" 393)]
def ig(P:Pz):=(Ey "share" "share" (top 14) 0 0)
def iZ(P:Pz):=(DW "share" 387 "share" 388 389 32 3 0 0 3 165 true 181 166 (.ref 167) (.ref 168) (.ref 169) 394 32 395)
noncomputable def Tj(P:Pz):=Obj.mk (.type "function") none (Data.func (FuncData.mk "share" "share" (Cr (top 14)) (FuncBody.stmts (Cj (top 14))) (Bh (top 14)) 3 [] (.ref 164) .none .none (.str "spinboard.shares" 376) none (.ref 170) .none 0)) #[]
def x10(P:Pz):List Obj:=[iK P,Ol P,jJ P,tz,jH P,jG P,jF P,tz,Dm,jE P,tz,jD P,jC P,jB P,jA P,i_ P,iz P,iy P,iw P]++(QH "is_whole" 13 30 1 157 378 ["thing"]++([Tn P,tz,Dm,iu P,tz,ig P,iZ P,Tj P]++(QH "common_divisor" 15 41 2 172 397 ["one","other","rest"]++(QH "share_times" 16 47 2 179 406 ["one","other","top","root"]))))
def nR (P:Pz):BT:=iF (iL (T9 P) [(3,X9b P),(12,X7l P),(31,wN P)]) 138 (x10 P)
theorem g9(p:U8)(b:W9)(w:W1)(os:OsState):gs p b w os 382 T9 138 351 l9 (Pos.mk 21 0 24 26) nR 186 416 (Pos.mk 47 0 50 46):=by unfold gs;rw[PySem.W.Fast.te10110043849684766642,PySem.W.Fast.te14364793385576792824];kernel_rfl
def vf(P:Pz):List DictEntry:=vZ P++[(dn P "share_over" 424 (.ref 192)),(dn P "show_share" 430 (.ref 197)),(dn P "show_whole" 440 (.ref 204)),(dn P "halved_out" 456 (.ref 211)),(dn P "plus" 462 (.ref 216)),(dn P "minus" 470 (.ref 223)),(dn P "times" 476 (.ref 228)),(dn P "spun" 486 (.ref 235)),(dn P "spun_once" 493 (.ref 242)),(dn P "mirror" 500 (.ref 249)),(dn P "rooted" 507 (.ref 256)),(dn P "real_share" 514 (.ref 263)),(dn P "CELL_SIGNS" 518 (.str ".fsb" 517))]
def X9a(P:Pz):=DP ((dn P "__name__" 165 (.str "spinboard.marks" 515))::vf P) 37
def qz(P:Pz):List Value:=xR P++[(.int 51 0),(.int 0 0),(.ref 191),(.int 56 0),(.int 0 0),(.ref 196),(.int 58 0),(.int 0 0),(.ref 203),(.int 68 0),(.int 0 0),(.ref 210),(.int 75 0),(.int 0 0),(.ref 215),(.int 81 0),(.int 0 0),(.ref 222),(.int 83 0),(.int 0 0),(.ref 227),(.int 90 0),(.int 0 0),(.ref 234),(.int 95 0),(.int 0 0),(.ref 241),(.int 97 0),(.int 0 0),(.ref 248),(.int 99 0),(.int 0 0),(.ref 255),(.int 101 0),(.int 0 0),(.ref 262)]
def X7k(P:Pz):=Cp (qz P)
def iY(P:Pz):=tq #[(.str "one" 490)]
noncomputable def iW(P:Pz):=Obj.mk .none none (Data.func (FuncData.mk "spun_once" "spun_once" (Cr (top 26)) (FuncBody.stmts (Cj (top 26))) (Bh (top 27)) 0 [] .none .none .none .none none .none .none 0)) #[]
def iV(P:Pz):=(DW "spun_once" 487 "spun_once" 488 489 95 1 0 0 3 236 true 181 237 (.ref 238) (.ref 239) (.ref 240) 491 95 492)
noncomputable def Ti(P:Pz):=Obj.mk (.type "function") none (Data.func (FuncData.mk "spun_once" "spun_once" (Cr (top 26)) (FuncBody.stmts (Cj (top 26))) (Bh (top 27)) 3 [] .none .none .none (.str "spinboard.amounts" 441) none (.ref 241) .none 0)) #[]
def iU(P:Pz):=tq #[(.str "one" 504)]
noncomputable def iT(P:Pz):=Obj.mk .none none (Data.func (FuncData.mk "rooted" "rooted" (Cr (top 28)) (FuncBody.stmts (Cj (top 28))) (Bh (top 55)) 0 [] .none .none .none .none none .none .none 0)) #[]
def iR(P:Pz):=(DW "rooted" 501 "rooted" 502 503 99 1 0 0 3 250 true 181 251 (.ref 252) (.ref 253) (.ref 254) 505 99 506)
noncomputable def Te(P:Pz):=Obj.mk (.type "function") none (Data.func (FuncData.mk "rooted" "rooted" (Cr (top 28)) (FuncBody.stmts (Cj (top 28))) (Bh (top 55)) 3 [] .none .none .none (.str "spinboard.amounts" 441) none (.ref 255) .none 0)) #[]
def x11(P:Pz):List Obj:=QH "share_over" 17 51 2 186 416 ["one","other","rootless"]++(QH "show_share" 18 56 1 193 425 []++(QH "show_whole" 19 58 1 198 431 ["number","piece","rest","shown"]++(Oz "halved_out" 21 68 5 205 443 ["a","b","c","d","h","places","lowest","less"]++(Oz "plus" 22 75 2 212 457 []++(Oz "minus" 23 81 2 217 463 ["one","other"]++(Oz "times" 24 83 2 224 471 []++(Oz "spun" 25 90 2 229 477 ["one","k","turning","step"]++([tz,Dm,iY P,tz,iW P,iV P,Ti P]++(Oz "mirror" 27 97 1 243 494 ["one"]++([tz,Dm,iU P,tz,iT P,iR P,Te P]++(Oz "real_share" 29 101 1 257 508 ["one"])))))))))))
def nP (P:Pz):BT:=iF (iL (nR P) [(3,X9a P),(12,X7k P)]) 186 (x11 P)
theorem yu(p:U8)(b:W9)(w:W1)(os:OsState):gs p b w os 383 nR 186 416 l10 (Pos.mk 47 0 50 46) nP 264 519 (Pos.mk 106 0 106 10):=by unfold gs;rw[PySem.W.Fast.te10110043849684766642,PySem.W.Fast.te14364793385576792824];kernel_rfl
def vg(P:Pz):List DictEntry:=vf P++[(dn P "ones" 527 (.ref 270)),(dn P "is_word" 535 (.ref 277)),(dn P "is_mark" 543 (.ref 284)),(dn P "is_even" 550 (.ref 291)),(dn P "is_even_mark" 558 (.ref 298)),(dn P "commute" 566 (.ref 305)),(dn P "product" 575 (.ref 312)),(dn P "turned_about" 582 (.ref 319)),(dn P "read_mark" 595 (.ref 326)),(dn P "NOUGHT" 603 (.ref 327)),(dn P "ONE" 609 (.ref 328)),(dn P "MOST_CELLS" 611 (.int 6 610)),(dn P "start" 618 (.ref 334)),(dn P "check_beginning" 626 (.ref 341))]
def X8z(P:Pz):=DP ((dn P "__name__" 165 (.str "spinboard.boards" 596))::vg P) 51
def q9(P:Pz):List Value:=qz P++[(.int 107 0),(.int 0 0),(.ref 269),(.int 114 0),(.int 0 0),(.ref 276),(.int 118 0),(.int 0 0),(.ref 283),(.int 124 0),(.int 0 0),(.ref 290),(.int 126 0),(.int 0 0),(.ref 297),(.int 128 0),(.int 0 0),(.ref 304),(.int 130 0),(.int 0 0),(.ref 311),(.int 133 0),(.int 0 0),(.ref 318),(.int 135 0),(.int 0 0),(.ref 325),(.int 154 0),(.int 0 0),(.ref 333),(.int 157 0),(.int 0 0),(.ref 340)]
def X7j(P:Pz):=Cp (q9 P)
def Td(P:Pz):=tq #[(.int 0 598),(.int 0 599),(.int 0 600),(.int 0 601),(.int 0 602)]
def Tc(P:Pz):=tq #[(.int 1 604),(.int 0 605),(.int 0 606),(.int 0 607),(.int 0 608)]
def TY(P:Pz):=tq #[(.int 0 612)]
def iQ(P:Pz):=(Ey "start" "start" (top 45) 0 0)
def iM(P:Pz):=(DW "start" 613 "start" 614 615 154 2 0 0 3 330 true 181 331 .none .none (.ref 332) 616 154 617)
noncomputable def TX(P:Pz):=Obj.mk (.type "function") none (Data.func (FuncData.mk "start" "start" (Cr (top 45)) (FuncBody.stmts (Cj (top 45))) (Bh (top 45)) 3 [] (.ref 329) .none .none (.str "spinboard.boards" 596) none (.ref 333) .none 0)) #[]
def x12(P:Pz):List Obj:=Ma "ones" 32 107 1 264 519 ["number","many","rest"]++(Ma "is_word" 33 114 2 271 528 ["thing","cells"]++(Ma "is_mark" 34 118 2 278 536 ["thing","cells"]++(Ma "is_even" 35 124 1 285 544 ["mark"]++(Ma "is_even_mark" 36 126 2 292 551 ["thing","cells"]++(Ma "commute" 37 128 2 299 559 ["one","other"]++(Ma "product" 38 130 2 306 567 ["one","other","met"]++(Ma "turned_about" 39 133 1 313 576 ["mark"]++(Ma "read_mark" 40 135 1 320 583 ["text","flips","signs","cell","sign","found","about"]++([Td P,Tc P,TY P,tz,Dm,iQ P,iM P,TX P]++(Tz "check_beginning" 46 157 2 335 619 ["cells","word"]))))))))))
def nM (P:Pz):BT:=iF (iL (nP P) [(3,X8z P),(12,X7j P)]) 264 (x12 P)
theorem yt(p:U8)(b:W9)(w:W1)(os:OsState):gs p b w os 382 nP 264 519 pU (Pos.mk 106 0 106 10) nM 342 627 (Pos.mk 157 0 161 62):=by unfold gs;rw[PySem.W.Fast.te10110043849684766642,PySem.W.Fast.te14364793385576792824];kernel_rfl
def vh(P:Pz):List DictEntry:=vg P++[(dn P "cells_of" 633 (.ref 348)),(dn P "heft" 642 (.ref 355)),(dn P "laid_on" 648 (.ref 360)),(dn P "spun_by_mark" 657 (.ref 367)),(dn P "settled" 669 (.ref 374)),(dn P "check_look" 677 (.ref 381)),(dn P "half_left" 683 (.ref 386)),(dn P "halved" 690 (.ref 393)),(dn P "is_nothing" 696 (.ref 398)),(dn P "looked" 705 (.ref 405)),(dn P "left_share" 715 (.ref 412))]
def X8y(P:Pz):=DP ((dn P "__name__" 165 (.str "spinboard.moves" 716))::vh P) 62
def q_(P:Pz):List Value:=q9 P++[(.int 162 0),(.int 0 0),(.ref 347),(.int 164 0),(.int 0 0),(.ref 354),(.int 169 0),(.int 0 0),(.ref 359),(.int 171 0),(.int 0 0),(.ref 366),(.int 174 0),(.int 0 0),(.ref 373),(.int 180 0),(.int 0 0),(.ref 380),(.int 183 0),(.int 0 0),(.ref 385),(.int 188 0),(.int 0 0),(.ref 392),(.int 190 0),(.int 0 0),(.ref 397),(.int 192 0),(.int 0 0),(.ref 404),(.int 196 0),(.int 0 0),(.ref 411)]
def X7i(P:Pz):=Cp (q_ P)
def oG(P:Pz):List Obj:=Tz "cells_of" 47 162 1 342 627 ["board"]++(Tz "heft" 48 164 1 349 634 ["board","total","one"]++(Tz "laid_on" 49 169 2 356 643 []++(Tz "spun_by_mark" 50 171 3 361 649 ["board","word","mark"]++(Ox "settled" 52 174 3 368 660 ["board","mark","outcome","behind"]++(Ox "check_look" 53 180 2 375 670 ["mark","cells"]++(Ox "half_left" 54 183 3 382 678 []++(Ox "halved" 55 188 1 387 684 ["one"]++(Ox "is_nothing" 56 190 1 394 691 []++(Ox "looked" 57 192 2 399 697 ["board","mark","ahead"]++(Ox "left_share" 58 196 4 406 706 ["board","mark","outcome","ahead"]))))))))))
def Ql (P:Pz):BT:=iF (iL (nM P) [(3,X8y P),(12,X7i P)]) 342 (oG P)
theorem yr(p:U8)(b:W9)(w:W1)(os:OsState):gs p b w os 342 nM 342 627 pR (Pos.mk 157 0 161 62) Ql 413 718 (Pos.mk 198 0 198 8):=by unfold gs;rw[PySem.W.Fast.te10110043849684766642,PySem.W.Fast.te14364793385576792824];kernel_rfl
def vm(P:Pz):List DictEntry:=vh P++[(dn P "NUMBERS_BEHIND" 739 (.ref 413)),(dn P "check_move" 745 (.ref 418)),(dn P "has_move_form" 751 (.ref 423)),(dn P "named_cells" 758 (.ref 430)),(dn P "turned" 764 (.ref 435)),(dn P "mixed" 770 (.ref 440)),(dn P "mixed_at" 779 (.ref 447)),(dn P "spun_where" 785 (.ref 452)),(dn P "word_behind" 791 (.ref 457)),(dn P "exchanged" 801 (.ref 464))]
def X8x(P:Pz):=DP ((dn P "__name__" 165 (.str "spinboard.rows" 802))::vm P) 72
def rA(P:Pz):List Value:=q_ P++[(.int 200 0),(.int 0 0),(.ref 417),(.int 209 0),(.int 0 0),(.ref 422),(.int 219 0),(.int 0 0),(.ref 429),(.int 221 0),(.int 0 0),(.ref 434),(.int 230 0),(.int 0 0),(.ref 439),(.int 232 0),(.int 0 0),(.ref 446),(.int 236 0),(.int 0 0),(.ref 451),(.int 238 0),(.int 0 0),(.ref 456),(.int 249 0),(.int 0 0),(.ref 463)]
def X7h(P:Pz):=Cp (rA P)
def TV(P:Pz):=DP [(dn P "flip" 718 (.int 1 719)),(dn P "mix" 720 (.int 1 721)),(dn P "turn" 722 (.int 2 723)),(dn P "if" 724 (.int 2 725)),(dn P "pair" 726 (.int 2 727)),(dn P "swap" 728 (.int 2 729)),(dn P "cross" 730 (.int 3 731))] 7
def g_(P:Pz):=tq #[(.str "move" 755)]
noncomputable def gw(P:Pz):=Obj.mk .none none (Data.func (FuncData.mk "named_cells" "named_cells" (Cr (top 63)) (FuncBody.stmts (Cj (top 63))) (Bh (top 101)) 0 [] .none .none .none .none none .none .none 0)) #[]
def gq(P:Pz):=(DW "named_cells" 752 "named_cells" 753 754 219 1 0 0 3 424 true 181 425 (.ref 426) (.ref 427) (.ref 428) 756 219 757)
noncomputable def TQ(P:Pz):=Obj.mk (.type "function") none (Data.func (FuncData.mk "named_cells" "named_cells" (Cr (top 63)) (FuncBody.stmts (Cj (top 63))) (Bh (top 101)) 3 [] .none .none .none (.str "spinboard.moves" 716) none (.ref 429) .none 0)) #[]
def oF(P:Pz):List Obj:=[TV P]++(Nj "check_move" 61 200 2 414 740 []++(Nj "has_move_form" 62 209 1 419 746 []++([tz,Dm,g_ P,tz,gw P,gq P,TQ P]++(Nj "turned" 64 221 2 431 759 []++(Nj "mixed" 65 230 2 436 765 []++(Nj "mixed_at" 66 232 3 441 771 ["board","word","bit"]++(Nj "spun_where" 67 236 3 448 780 []++(Nj "word_behind" 68 238 2 453 786 []++(Nj "exchanged" 69 249 3 458 792 ["word","bit","other","both"])))))))))
def Qk (P:Pz):BT:=iF (iL (Ql P) [(3,X8x P),(12,X7h P)]) 413 (oF P)
theorem yq(p:U8)(b:W9)(w:W1)(os:OsState):gs p b w os 373 Ql 413 718 R9 (Pos.mk 198 0 198 8) Qk 465 804 (Pos.mk 252 0 252 8):=
 (byRow2 "special-get-raises" (P:=λw=>(λw:World=>gs p b w os 373 Ql 413 718 R9 (Pos.mk 198 0 198 8) Qk 465 804 (Pos.mk 252 0 252 8)) w) (λw=>by show (λw:World=>gs p b w os 373 Ql 413 718 R9 (Pos.mk 198 0 198 8) Qk 465 804 (Pos.mk 252 0 252 8)) (World.withFollow w "special-get-raises" false);unfold gs;rw[PySem.W.Fast.te10110043849684766642,PySem.W.Fast.te14364793385576792824];kernel_rfl) (λw=>by show (λw:World=>gs p b w os 373 Ql 413 718 R9 (Pos.mk 198 0 198 8) Qk 465 804 (Pos.mk 252 0 252 8)) (World.withFollow w "special-get-raises" true);unfold gs;rw[PySem.W.Fast.te10110043849684766642,PySem.W.Fast.te14364793385576792824];kernel_rfl)) w
def vo(P:Pz):List DictEntry:=vm P++[(dn P "run" 813 (.ref 471)),(dn P "solved" 826 (.ref 478)),(dn P "cleared" 836 (.ref 485)),(dn P "places_at_one" 842 (.ref 490)),(dn P "solution" 852 (.ref 497)),(dn P "PRODUCT_OF_NONE" 858 (.ref 498)),(dn P "FIRST_SIGN_LEAD" 860 (.int 6 859)),(dn P "is_table" 866 (.ref 503)),(dn P "commutes_with_all" 872 (.ref 508)),(dn P "check_table" 880 (.ref 515)),(dn P "reduced" 886 (.ref 520)),(dn P "without_lead" 894 (.ref 527)),(dn P "lead" 901 (.ref 534)),(dn P "least_cell" 908 (.ref 541))]
def X8w(P:Pz):=DP ((dn P "__name__" 165 (.str "spinboard.tables" 853))::vo P) 86
def rB(P:Pz):List Value:=rA P++[(.int 253 0),(.int 0 0),(.ref 470),(.int 259 0),(.int 0 0),(.ref 477),(.int 268 0),(.int 0 0),(.ref 484),(.int 274 0),(.int 0 0),(.ref 489),(.int 276 0),(.int 0 0),(.ref 496),(.int 286 0),(.int 0 0),(.ref 502),(.int 294 0),(.int 0 0),(.ref 507),(.int 296 0),(.int 0 0),(.ref 514),(.int 299 0),(.int 0 0),(.ref 519),(.int 308 0),(.int 0 0),(.ref 526),(.int 310 0),(.int 0 0),(.ref 533),(.int 314 0),(.int 0 0),(.ref 540)]
def X7g(P:Pz):=Cp (rB P)
def gk(P:Pz):=tq #[(.int 0 855),(.int 0 856),(.int 0 857)]
def oE(P:Pz):List Obj:=zG "run" 71 253 2 465 804 ["board","row","behind","move"]++(V_ "solved" 73 259 1 472 816 ["equations","kept","place","equation","left"]++(V_ "cleared" 74 268 2 479 827 ["equation","kept","left","other"]++(V_ "places_at_one" 75 274 1 486 837 []++(V_ "solution" 76 276 1 491 843 ["kept","x","height","equation"]++([gk P]++(J3 "is_table" 80 286 2 499 861 []++(J3 "commutes_with_all" 81 294 2 504 867 []++(J3 "check_table" 82 296 2 509 873 ["rows","cells"]++(J3 "reduced" 83 299 2 516 881 []++(J3 "without_lead" 84 308 2 521 887 ["mark","row"]++(J3 "lead" 85 310 1 528 895 ["mark"]++(J3 "least_cell" 86 314 1 535 902 ["word"]))))))))))))
def T15 (P:Pz):BT:=iF (iL (Qk P) [(3,X8w P),(12,X7g P)]) 465 (oE P)
theorem yp(p:U8)(b:W9)(w:W1)(os:OsState):gs p b w os 392 Qk 465 804 pQ (Pos.mk 252 0 252 8) T15 542 909 (Pos.mk 314 0 315 42):=by unfold gs;rw[PySem.W.Fast.te10110043849684766642,PySem.W.Fast.te14364793385576792824];kernel_rfl
def vp(P:Pz):List DictEntry:=vo P++[(dn P "has_at_lead" 916 (.ref 548)),(dn P "made_of" 922 (.ref 553)),(dn P "rows_with" 928 (.ref 558)),(dn P "product_of" 937 (.ref 565)),(dn P "apart_by" 943 (.ref 570)),(dn P "spread" 951 (.ref 575)),(dn P "left_by_signs" 957 (.ref 580)),(dn P "SURE" 963 (.ref 581)),(dn P "NEVER" 967 (.ref 582)),(dn P "HALF" 971 (.ref 583)),(dn P "borne" 980 (.ref 590)),(dn P "is_borne" 987 (.ref 597)),(dn P "is_odd_turn" 994 (.ref 604)),(dn P "moved_rows" 1000 (.ref 609)),(dn P "check_borne" 1008 (.ref 616))]
def X8v(P:Pz):=DP ((dn P "__name__" 165 (.str "spinboard.tableturns" 958))::vp P) 101
def rC(P:Pz):List Value:=rB P++[(.int 316 0),(.int 0 0),(.ref 547),(.int 320 0),(.int 0 0),(.ref 552),(.int 329 0),(.int 0 0),(.ref 557),(.int 331 0),(.int 0 0),(.ref 564),(.int 336 0),(.int 0 0),(.ref 569),(.int 341 0),(.int 0 0),(.ref 574),(.int 351 0),(.int 0 0),(.ref 579),(.int 357 0),(.int 0 0),(.ref 589),(.int 362 0),(.int 0 0),(.ref 596),(.int 364 0),(.int 0 0),(.ref 603),(.int 366 0),(.int 0 0),(.ref 608),(.int 369 0),(.int 0 0),(.ref 615)]
def X7f(P:Pz):=Cp (rC P)
def TJ(P:Pz):=tq #[(.int 1 960),(.int 0 961),(.int 1 962)]
def TF(P:Pz):=tq #[(.int 0 964),(.int 0 965),(.int 1 966)]
def gj(P:Pz):=tq #[(.int 1 968),(.int 0 969),(.int 2 970)]
def oA(P:Pz):List Obj:=J3 "has_at_lead" 87 316 2 542 909 ["mark","place"]++(J3 "made_of" 88 320 3 549 917 []++(J3 "rows_with" 89 329 3 554 923 []++(J3 "product_of" 90 331 1 559 929 ["marks","made","mark"]++(J3 "apart_by" 91 336 2 566 938 []++(UG "spread" 93 341 1 571 946 []++(UG "left_by_signs" 94 351 2 576 952 []++([TJ P,TF P,gj P]++(Ed "borne" 99 357 1 584 972 ["row","place","move"]++(Ed "is_borne" 100 362 1 591 981 ["move"]++(Ed "is_odd_turn" 101 364 1 598 988 ["move"]++(Ed "moved_rows" 102 366 2 605 995 []++(Ed "check_borne" 103 369 1 610 1001 ["row","place"]))))))))))))
def nJ (P:Pz):BT:=iF (iL (T15 P) [(3,X8v P),(12,X7f P)]) 542 (oA P)
theorem yj(p:U8)(b:W9)(w:W1)(os:OsState):gs p b w os 394 T15 542 909 pP (Pos.mk 314 0 315 42) nJ 617 1009 (Pos.mk 369 0 372 29):=by unfold gs;rw[PySem.W.Fast.te10110043849684766642,PySem.W.Fast.te14364793385576792824];kernel_rfl
def vq(P:Pz):List DictEntry:=vp P++[(dn P "moved_through" 1018 (.ref 623)),(dn P "moved_by" 1028 (.ref 630)),(dn P "moved_by_mix" 1039 (.ref 637)),(dn P "moved_by_turn" 1049 (.ref 644)),(dn P "moved_by_if" 1060 (.ref 651)),(dn P "moved_by_pair" 1071 (.ref 658)),(dn P "table_looked" 1080 (.ref 665)),(dn P "table_settled" 1086 (.ref 670))]
def X8u(P:Pz):=DP ((dn P "__name__" 165 (.str "spinboard.holders" 1087))::vq P) 109
def rD(P:Pz):List Value:=rC P++[(.int 373 0),(.int 0 0),(.ref 622),(.int 378 0),(.int 0 0),(.ref 629),(.int 392 0),(.int 0 0),(.ref 636),(.int 397 0),(.int 0 0),(.ref 643),(.int 402 0),(.int 0 0),(.ref 650),(.int 406 0),(.int 0 0),(.ref 657),(.int 414 0),(.int 0 0),(.ref 664),(.int 419 0),(.int 0 0),(.ref 669)]
def X7e(P:Pz):=Cp (rD P)
def x17(P:Pz):List Obj:=Ed "moved_through" 104 373 2 617 1009 ["mark","row","behind","move"]++(Ed "moved_by" 105 378 2 624 1019 ["mark","move","bit","other"]++(Ed "moved_by_mix" 106 392 2 631 1029 ["mark","bit","flips","signs","moved"]++(Ed "moved_by_turn" 107 397 3 638 1040 ["mark","bit","k","signs"]++(Ed "moved_by_if" 108 402 3 645 1050 ["mark","bit","other","flips","signs"]++(Ed "moved_by_pair" 109 406 3 652 1061 ["mark","bit","other","signs","moved"]++(Ed "table_looked" 110 414 2 659 1072 ["rows","mark","told"]++(Ed "table_settled" 111 419 3 666 1081 [])))))))
def nH (P:Pz):BT:=iF (iL (nJ P) [(3,X8u P),(12,X7e P)]) 617 (x17 P)
theorem yh(p:U8)(b:W9)(w:W1)(os:OsState):gs p b w os 262 nJ 617 1009 pO (Pos.mk 369 0 372 29) nH 671 1089 (Pos.mk 428 0 428 8):=by unfold gs;rw[PySem.W.Fast.te10110043849684766642,PySem.W.Fast.te14364793385576792824];kernel_rfl
def v8(P:Pz):List DictEntry:=vq P++[(dn P "Holder" 1143 (.ref 708))]
def X8t(P:Pz):=DP ((dn P "__name__" 165 (.str "spinboard.holders" 1087))::v8 P) 110
def rE(P:Pz):List Value:=rD P++[(.int 429 0),(.int 0 0),(.ref 676)]
def X7d(P:Pz):=Cp (rE P)
def gb(P:Pz):=DP [(dn P "__module__" 1096 (.str "spinboard.holders" 1087)),(dn P "__qualname__" 1098 (.str "Holder" 1097)),(dn P "__firstlineno__" 1100 (.int 429 1099)),(dn P "__init__" 1109 (.ref 684)),(dn P "take" 1117 (.ref 691)),(dn P "take_row" 1125 (.ref 698)),(dn P "keeps" 1133 (.ref 705)),(dn P "__static_attributes__" 1136 (.ref 706))] 8
noncomputable def gY(P:Pz):=Obj.mk .none none (Data.fields #[(.int 431 0),(.int 4 0),(.ref 683),(.int 436 0),(.int 4 0),(.ref 690),(.int 439 0),(.int 4 0),(.ref 697),(.int 444 0),(.int 4 0),(.ref 704)]) #[]
def gW(P:Pz):=(DW "Holder" 1091 "Holder" 1092 1093 429 0 0 0 0 674 false 181 675 .none .none .none 1094 429 1095)
noncomputable def gU(P:Pz):=Obj.mk (.type "frame") none Data.plain #[(some (.ref 676)),(some (.ref 3)),(some (.ref 673)),none,(some (.str "spinboard.holders" 1087)),none,(some (.ref 0))]
def gR(P:Pz):=tq #[(.str "self" 1104),(.str "cells" 1105),(.str "word" 1106)]
def gQ(P:Pz):=(Ey "__init__" "Holder.__init__" (BP (top 113) 0) 0 0)
def gP(P:Pz):=(DW "__init__" 1101 "Holder.__init__" 1102 1103 431 3 0 0 3 678 true 181 679 (.ref 680) (.ref 681) (.ref 682) 1107 431 1108)
def S_(P:Pz):=(Gf "__init__" "Holder.__init__" (BP (top 113) 0) 3 "spinboard.holders" 1087 683 0)
def gK(P:Pz):=tq #[(.str "self" 1113),(.str "move" 1114)]
def gJ(P:Pz):=(Ey "take" "Holder.take" (BP (top 113) 1) 0 0)
def gH(P:Pz):=(DW "take" 1110 "Holder.take" 1111 1112 436 2 0 0 3 685 true 181 686 (.ref 687) (.ref 688) (.ref 689) 1115 436 1116)
def Sy(P:Pz):=(Gf "take" "Holder.take" (BP (top 113) 1) 3 "spinboard.holders" 1087 690 0)
def gG(P:Pz):=tq #[(.str "self" 1121),(.str "row" 1122)]
def gD(P:Pz):=(Ey "take_row" "Holder.take_row" (BP (top 113) 2) 0 0)
def gB(P:Pz):=(DW "take_row" 1118 "Holder.take_row" 1119 1120 439 2 0 0 3 692 true 181 693 (.ref 694) (.ref 695) (.ref 696) 1123 439 1124)
def Sx(P:Pz):=(Gf "take_row" "Holder.take_row" (BP (top 113) 2) 3 "spinboard.holders" 1087 697 0)
def f9(P:Pz):=tq #[(.str "self" 1129),(.str "mark" 1130)]
def fu(P:Pz):=(Ey "keeps" "Holder.keeps" (BP (top 113) 3) 0 0)
def fj(P:Pz):=(DW "keeps" 1126 "Holder.keeps" 1127 1128 444 2 0 0 3 699 true 181 700 (.ref 701) (.ref 702) (.ref 703) 1131 444 1132)
def fZ(P:Pz):=(Gf "keeps" "Holder.keeps" (BP (top 113) 3) 3 "spinboard.holders" 1087 704 0)
def fY(P:Pz):=tq #[(.str "cells" 1134),(.str "chance" 1135)]
def fX(P:Pz):=DP [(dn P "__module__" 1096 (.str "spinboard.holders" 1087)),(dn P "__firstlineno__" 1100 (.int 429 1099)),(dn P "__init__" 1109 (.ref 684)),(dn P "take" 1117 (.ref 691)),(dn P "take_row" 1125 (.ref 698)),(dn P "keeps" 1133 (.ref 705)),(dn P "__static_attributes__" 1136 (.ref 706)),(dn P "__dict__" 1138 (.ref 709)),(dn P "__weakref__" 1140 (.ref 710)),(dn P "__doc__" 1141 .none)] 4
def X3v(P:Pz):=Obj.mk (.type "type") none (Data.cls (ClassData.mk "Holder" [(.type "object")] [(.ref 708),(.type "object")] 707 "Holder" true [] [] false none false)) #[none,none,(some (.str "Holder" 1089)),(some (.str "Holder" 1097)),(some (.builtin "object.__new__")),(some (.bool true))]
noncomputable def fW(P:Pz):=Obj.mk (.type "getset_descriptor") none (Data.fields #[(.str "__dict__" 1137),(.ref 708),(.builtin "function.__dict__"),(.builtin "function.__dict__#set")]) #[]
noncomputable def fV(P:Pz):=Obj.mk (.type "getset_descriptor") none (Data.fields #[(.str "__weakref__" 1139),(.ref 708),(.builtin "ExceptionGroup.__weakref__"),.none]) #[]
noncomputable def fU(P:Pz):=Obj.mk (.type "super") none (Data.fields #[(.ref 708),(.ref 708),(.ref 708)]) #[]
noncomputable def fQ(P:Pz):=Obj.mk (.type "builtin_function_or_method") none (Data.fields #[(.builtin "object.__init_subclass__"),(.ref 708)]) #[]
def x18(P:Pz):List Obj:=[tz,Ol P,gb P,tz,gY P,gW P,gU P,tz,Dm,gR P,tz,gQ P,gP P,S_ P,tz,Dm,gK P,tz,gJ P,gH P,Sy P,tz,Dm,gG P,tz,gD P,gB P,Sx P,tz,Dm,f9 P,tz,fu P,fj P,fZ P,fY P,fX P,X3v P,fW P,fV P,fU P,fQ P]
def nG (P:Pz):BT:=iF (iL (nH P) [(3,X8t P),(12,X7d P)]) 671 (x18 P)
theorem yg(p:U8)(b:W9)(w:W1)(os:OsState):gs p b w os 321 nH 671 1089 pN (Pos.mk 428 0 428 8) nG 713 1144 (Pos.mk 429 0 445 16):=by unfold gs;rw[PySem.W.Fast.te10110043849684766642,PySem.W.Fast.te14364793385576792824];kernel_rfl
def v9(P:Pz):List DictEntry:=v8 P++[(dn P "AmountHolder" 1218 (.ref 772))]
def X8s(P:Pz):=DP ((dn P "__name__" 165 (.str "spinboard.holders" 1087))::v9 P) 111
def rF(P:Pz):List Value:=rE P++[(.int 446 0),(.int 0 0),(.ref 718)]
def X7c(P:Pz):=Cp (rF P)
def X3u(P:Pz):=Obj.mk (.type "type") none (Data.cls (ClassData.mk "Holder" [(.type "object")] [(.ref 708),(.type "object")] 707 "Holder" true [] [(.ref 772)] false none false)) #[none,none,(some (.str "Holder" 1089)),(some (.str "Holder" 1097)),(some (.builtin "object.__new__")),(some (.bool true))]
def Sw(P:Pz):=tq #[(.ref 708)]
def fP(P:Pz):=DP [(dn P "__module__" 1151 (.str "spinboard.holders" 1087)),(dn P "__qualname__" 1153 (.str "AmountHolder" 1152)),(dn P "__firstlineno__" 1155 (.int 446 1154)),(dn P "__init__" 1165 (.ref 727)),(dn P "turn_by" 1173 (.ref 734)),(dn P "settle" 1182 (.ref 741)),(dn P "shares_of" 1190 (.ref 748)),(dn P "told_board" 1197 (.ref 755)),(dn P "told_rows" 1204 (.ref 762)),(dn P "twin" 1212 (.ref 769)),(dn P "__static_attributes__" 1215 (.ref 770))] 11
noncomputable def fO(P:Pz):=Obj.mk .none none (Data.fields #[(.int 448 0),(.int 4 0),(.ref 726),(.int 452 0),(.int 4 0),(.ref 733),(.int 455 0),(.int 4 0),(.ref 740),(.int 459 0),(.int 4 0),(.ref 747),(.int 462 0),(.int 4 0),(.ref 754),(.int 465 0),(.int 4 0),(.ref 761),(.int 468 0),(.int 4 0),(.ref 768)]) #[]
def fM(P:Pz):=(DW "AmountHolder" 1146 "AmountHolder" 1147 1148 446 0 0 0 0 716 false 181 717 .none .none .none 1149 446 1150)
noncomputable def fL(P:Pz):=Obj.mk (.type "frame") none Data.plain #[(some (.ref 718)),(some (.ref 3)),(some (.ref 715)),none,(some (.str "spinboard.holders" 1087)),none,(some (.ref 0))]
def Sv(P:Pz):=tq #[(.int 0 1156)]
def fK(P:Pz):=tq #[(.str "self" 1160),(.str "cells" 1161),(.str "word" 1162)]
def fJ(P:Pz):=(Ey "__init__" "AmountHolder.__init__" (BP (top 114) 0) 0 0)
def fH(P:Pz):=(DW "__init__" 1157 "AmountHolder.__init__" 1158 1159 448 3 0 0 3 721 true 181 722 (.ref 723) (.ref 724) (.ref 725) 1163 448 1164)
noncomputable def Ss(P:Pz):=Obj.mk (.type "function") none (Data.func (FuncData.mk "__init__" "AmountHolder.__init__" (Cr (BP (top 114) 0)) (FuncBody.stmts (Cj (BP (top 114) 0))) (Bh (BP (top 114) 0)) 3 [] (.ref 720) .none .none (.str "spinboard.holders" 1087) none (.ref 726) .none 0)) #[]
def fG(P:Pz):=tq #[(.str "self" 1169),(.str "row" 1170)]
def fD(P:Pz):=(Ey "turn_by" "AmountHolder.turn_by" (BP (top 114) 1) 0 0)
def fC(P:Pz):=(DW "turn_by" 1166 "AmountHolder.turn_by" 1167 1168 452 2 0 0 3 728 true 181 729 (.ref 730) (.ref 731) (.ref 732) 1171 452 1172)
def Sq(P:Pz):=(Gf "turn_by" "AmountHolder.turn_by" (BP (top 114) 1) 3 "spinboard.holders" 1087 733 0)
def fB(P:Pz):=tq #[(.str "self" 1177),(.str "mark" 1178),(.str "outcome" 1179)]
def eZ(P:Pz):=(Ey "settle" "AmountHolder.settle" (BP (top 114) 2) 0 0)
def d_(P:Pz):=(DW "settle" 1174 "AmountHolder.settle" 1175 1176 455 3 0 0 3 735 true 181 736 (.ref 737) (.ref 738) (.ref 739) 1180 455 1181)
def Sg(P:Pz):=(Gf "settle" "AmountHolder.settle" (BP (top 114) 2) 3 "spinboard.holders" 1087 740 0)
def dz(P:Pz):=tq #[(.str "self" 1186),(.str "mark" 1187)]
def dw(P:Pz):=(Ey "shares_of" "AmountHolder.shares_of" (BP (top 114) 3) 0 0)
def dj(P:Pz):=(DW "shares_of" 1183 "AmountHolder.shares_of" 1184 1185 459 2 0 0 3 742 true 181 743 (.ref 744) (.ref 745) (.ref 746) 1188 459 1189)
def Sd(P:Pz):=(Gf "shares_of" "AmountHolder.shares_of" (BP (top 114) 3) 3 "spinboard.holders" 1087 747 0)
def dh(P:Pz):=tq #[(.str "self" 1194)]
def dg(P:Pz):=(Ey "told_board" "AmountHolder.told_board" (BP (top 114) 4) 0 0)
def cu(P:Pz):=(DW "told_board" 1191 "AmountHolder.told_board" 1192 1193 462 1 0 0 3 749 true 181 750 (.ref 751) (.ref 752) (.ref 753) 1195 462 1196)
def SQ(P:Pz):=(Gf "told_board" "AmountHolder.told_board" (BP (top 114) 4) 3 "spinboard.holders" 1087 754 0)
def cj(P:Pz):=tq #[(.str "self" 1201)]
noncomputable def cg(P:Pz):=Obj.mk .none none (Data.func (FuncData.mk "told_rows" "AmountHolder.told_rows" (Cr (BP (top 114) 5)) (FuncBody.stmts (Cj (BP (top 114) 5))) (Bh (BP (top 115) 5)) 0 [] .none .none .none .none none .none .none 0)) #[]
def b_(P:Pz):=(DW "told_rows" 1198 "AmountHolder.told_rows" 1199 1200 465 1 0 0 3 756 true 181 757 (.ref 758) (.ref 759) (.ref 760) 1202 465 1203)
noncomputable def bx(P:Pz):=Obj.mk (.type "function") none (Data.func (FuncData.mk "told_rows" "AmountHolder.told_rows" (Cr (BP (top 114) 5)) (FuncBody.stmts (Cj (BP (top 114) 5))) (Bh (BP (top 115) 5)) 3 [] .none .none .none (.str "spinboard.holders" 1087) none (.ref 761) .none 0)) #[]
def bw(P:Pz):=tq #[(.str "self" 1208),(.str "other" 1209)]
def bh(P:Pz):=(Ey "twin" "AmountHolder.twin" (BP (top 114) 6) 0 0)
def bf(P:Pz):=(DW "twin" 1205 "AmountHolder.twin" 1206 1207 468 1 0 0 3 763 true 181 764 (.ref 765) (.ref 766) (.ref 767) 1210 468 1211)
def SN(P:Pz):=(Gf "twin" "AmountHolder.twin" (BP (top 114) 6) 3 "spinboard.holders" 1087 768 0)
def bZ(P:Pz):=tq #[(.str "board" 1213),(.str "chance" 1214)]
def bY(P:Pz):=DP [(dn P "__module__" 1151 (.str "spinboard.holders" 1087)),(dn P "__firstlineno__" 1155 (.int 446 1154)),(dn P "__init__" 1165 (.ref 727)),(dn P "turn_by" 1173 (.ref 734)),(dn P "settle" 1182 (.ref 741)),(dn P "shares_of" 1190 (.ref 748)),(dn P "told_board" 1197 (.ref 755)),(dn P "told_rows" 1204 (.ref 762)),(dn P "twin" 1212 (.ref 769)),(dn P "__static_attributes__" 1215 (.ref 770)),(dn P "__doc__" 1216 .none)] 2
noncomputable def bW(P:Pz):=Obj.mk (.type "type") none (Data.cls (ClassData.mk "AmountHolder" [(.ref 708)] [(.ref 772),(.ref 708),(.type "object")] 771 "AmountHolder" true [] [] false none false)) #[(some (.ref 713)),none,(some (.str "AmountHolder" 1144)),(some (.str "AmountHolder" 1152)),(some (.builtin "object.__new__")),(some (.bool true))]
noncomputable def bV(P:Pz):=Obj.mk (.type "super") none (Data.fields #[(.ref 772),(.ref 772),(.ref 772)]) #[]
noncomputable def bU(P:Pz):=Obj.mk (.type "builtin_function_or_method") none (Data.fields #[(.builtin "object.__init_subclass__"),(.ref 772)]) #[]
def n_(P:Pz):List Obj:=[Sw P,Ol P,fP P,tz,fO P,fM P,fL P,Sv P,tz,Dm,fK P,tz,fJ P,fH P,Ss P,tz,Dm,fG P,tz,fD P,fC P,Sq P,tz,Dm,fB P,tz,eZ P,d_ P,Sg P,tz,Dm,dz P,tz,dw P,dj P,Sd P,tz,Dm,dh P,tz,dg P,cu P,SQ P,tz,Dm,cj P,tz,cg P,b_ P,bx P,tz,Dm,bw P,tz,bh P,bf P,SN P,bZ P,bY P,bW P,bV P,bU P]
def nC (P:Pz):BT:=iF (iL (nG P) [(3,X8s P),(12,X7c P),(708,X3u P)]) 713 (n_ P)
theorem yd(p:U8)(b:W9)(w:W1)(os:OsState):gs p b w os 441 nG 713 1144 pL (Pos.mk 429 0 445 16) nC 775 1219 (Pos.mk 446 0 472 20):=by unfold gs;rw[PySem.W.Fast.te10110043849684766642,PySem.W.Fast.te14364793385576792824];kernel_rfl
def wA(P:Pz):List DictEntry:=v9 P++[(dn P "SignHolder" 1294 (.ref 834))]
def X8r(P:Pz):=DP ((dn P "__name__" 165 (.str "spinboard.holders" 1087))::wA P) 112
def rG(P:Pz):List Value:=rF P++[(.int 473 0),(.int 0 0),(.ref 780)]
def X7b(P:Pz):=Cp (rG P)
def sI(P:Pz):=Obj.mk (.type "type") none (Data.cls (ClassData.mk "Holder" [(.type "object")] [(.ref 708),(.type "object")] 707 "Holder" true [] [(.ref 772),(.ref 834)] false none false)) #[none,none,(some (.str "Holder" 1089)),(some (.str "Holder" 1097)),(some (.builtin "object.__new__")),(some (.bool true))]
def bT(P:Pz):=DP [(dn P "__module__" 1226 (.str "spinboard.holders" 1087)),(dn P "__qualname__" 1228 (.str "SignHolder" 1227)),(dn P "__firstlineno__" 1230 (.int 473 1229)),(dn P "__init__" 1240 (.ref 789)),(dn P "turn_by" 1248 (.ref 796)),(dn P "settle" 1258 (.ref 803)),(dn P "shares_of" 1266 (.ref 810)),(dn P "told_board" 1273 (.ref 817)),(dn P "told_rows" 1280 (.ref 824)),(dn P "twin" 1288 (.ref 831)),(dn P "__static_attributes__" 1291 (.ref 832))] 11
noncomputable def bR(P:Pz):=Obj.mk .none none (Data.fields #[(.int 475 0),(.int 4 0),(.ref 788),(.int 479 0),(.int 4 0),(.ref 795),(.int 483 0),(.int 4 0),(.ref 802),(.int 488 0),(.int 4 0),(.ref 809),(.int 492 0),(.int 4 0),(.ref 816),(.int 495 0),(.int 4 0),(.ref 823),(.int 498 0),(.int 4 0),(.ref 830)]) #[]
def bQ(P:Pz):=(DW "SignHolder" 1221 "SignHolder" 1222 1223 473 0 0 0 0 778 false 181 779 .none .none .none 1224 473 1225)
noncomputable def bO(P:Pz):=Obj.mk (.type "frame") none Data.plain #[(some (.ref 780)),(some (.ref 3)),(some (.ref 777)),none,(some (.str "spinboard.holders" 1087)),none,(some (.ref 0))]
def bN(P:Pz):=tq #[(.int 0 1231)]
def bM(P:Pz):=tq #[(.str "self" 1235),(.str "cells" 1236),(.str "word" 1237)]
def bL(P:Pz):=(Ey "__init__" "SignHolder.__init__" (BP (top 115) 0) 0 0)
def bK(P:Pz):=(DW "__init__" 1232 "SignHolder.__init__" 1233 1234 475 3 0 0 3 783 true 181 784 (.ref 785) (.ref 786) (.ref 787) 1238 475 1239)
noncomputable def bJ(P:Pz):=Obj.mk (.type "function") none (Data.func (FuncData.mk "__init__" "SignHolder.__init__" (Cr (BP (top 115) 0)) (FuncBody.stmts (Cj (BP (top 115) 0))) (Bh (BP (top 115) 0)) 3 [] (.ref 782) .none .none (.str "spinboard.holders" 1087) none (.ref 788) .none 0)) #[]
def bI(P:Pz):=tq #[(.str "self" 1244),(.str "row" 1245)]
def bH(P:Pz):=(Ey "turn_by" "SignHolder.turn_by" (BP (top 115) 1) 0 0)
def bG(P:Pz):=(DW "turn_by" 1241 "SignHolder.turn_by" 1242 1243 479 2 0 0 3 790 true 181 791 (.ref 792) (.ref 793) (.ref 794) 1246 479 1247)
def bF(P:Pz):=(Gf "turn_by" "SignHolder.turn_by" (BP (top 115) 1) 3 "spinboard.holders" 1087 795 0)
def bD(P:Pz):=tq #[(.str "self" 1252),(.str "mark" 1253),(.str "outcome" 1254),(.str "part" 1255)]
def bC(P:Pz):=(Ey "settle" "SignHolder.settle" (BP (top 115) 2) 0 0)
def bB(P:Pz):=(DW "settle" 1249 "SignHolder.settle" 1250 1251 483 3 0 0 3 797 true 181 798 (.ref 799) (.ref 800) (.ref 801) 1256 483 1257)
def bA(P:Pz):=(Gf "settle" "SignHolder.settle" (BP (top 115) 2) 3 "spinboard.holders" 1087 802 0)
def au(P:Pz):=tq #[(.str "self" 1262),(.str "mark" 1263)]
def ak(P:Pz):=(Ey "shares_of" "SignHolder.shares_of" (BP (top 115) 3) 0 0)
def aj(P:Pz):=(DW "shares_of" 1259 "SignHolder.shares_of" 1260 1261 488 2 0 0 3 804 true 181 805 (.ref 806) (.ref 807) (.ref 808) 1264 488 1265)
def aY(P:Pz):=(Gf "shares_of" "SignHolder.shares_of" (BP (top 115) 3) 3 "spinboard.holders" 1087 809 0)
def aW(P:Pz):=tq #[(.str "self" 1270)]
def aU(P:Pz):=(Ey "told_board" "SignHolder.told_board" (BP (top 115) 4) 0 0)
def aR(P:Pz):=(DW "told_board" 1267 "SignHolder.told_board" 1268 1269 492 1 0 0 3 811 true 181 812 (.ref 813) (.ref 814) (.ref 815) 1271 492 1272)
def aQ(P:Pz):=(Gf "told_board" "SignHolder.told_board" (BP (top 115) 4) 3 "spinboard.holders" 1087 816 0)
def aP(P:Pz):=tq #[(.str "self" 1277)]
def aM(P:Pz):=(Ey "told_rows" "SignHolder.told_rows" (BP (top 115) 5) 0 0)
def aK(P:Pz):=(DW "told_rows" 1274 "SignHolder.told_rows" 1275 1276 495 1 0 0 3 818 true 181 819 (.ref 820) (.ref 821) (.ref 822) 1278 495 1279)
def aJ(P:Pz):=(Gf "told_rows" "SignHolder.told_rows" (BP (top 115) 5) 3 "spinboard.holders" 1087 823 0)
def aH(P:Pz):=tq #[(.str "self" 1284),(.str "other" 1285)]
def aG(P:Pz):=(Ey "twin" "SignHolder.twin" (BP (top 115) 6) 0 0)
def aD(P:Pz):=(DW "twin" 1281 "SignHolder.twin" 1282 1283 498 1 0 0 3 825 true 181 826 (.ref 827) (.ref 828) (.ref 829) 1286 498 1287)
def aC(P:Pz):=(Gf "twin" "SignHolder.twin" (BP (top 115) 6) 3 "spinboard.holders" 1087 830 0)
def aB(P:Pz):=tq #[(.str "chance" 1289),(.str "rows" 1290)]
def aA(P:Pz):=DP [(dn P "__module__" 1226 (.str "spinboard.holders" 1087)),(dn P "__firstlineno__" 1230 (.int 473 1229)),(dn P "__init__" 1240 (.ref 789)),(dn P "turn_by" 1248 (.ref 796)),(dn P "settle" 1258 (.ref 803)),(dn P "shares_of" 1266 (.ref 810)),(dn P "told_board" 1273 (.ref 817)),(dn P "told_rows" 1280 (.ref 824)),(dn P "twin" 1288 (.ref 831)),(dn P "__static_attributes__" 1291 (.ref 832)),(dn P "__doc__" 1292 .none)] 2
noncomputable def Z_(P:Pz):=Obj.mk (.type "type") none (Data.cls (ClassData.mk "SignHolder" [(.ref 708)] [(.ref 834),(.ref 708),(.type "object")] 833 "SignHolder" true [] [] false none false)) #[(some (.ref 775)),none,(some (.str "SignHolder" 1219)),(some (.str "SignHolder" 1227)),(some (.builtin "object.__new__")),(some (.bool true))]
noncomputable def Z9(P:Pz):=Obj.mk (.type "super") none (Data.fields #[(.ref 834),(.ref 834),(.ref 834)]) #[]
noncomputable def Z8(P:Pz):=Obj.mk (.type "builtin_function_or_method") none (Data.fields #[(.builtin "object.__init_subclass__"),(.ref 834)]) #[]
def x20(P:Pz):List Obj:=[Sw P,Ol P,bT P,tz,bR P,bQ P,bO P,bN P,tz,Dm,bM P,tz,bL P,bK P,bJ P,tz,Dm,bI P,tz,bH P,bG P,bF P,tz,Dm,bD P,tz,bC P,bB P,bA P,tz,Dm,au P,tz,ak P,aj P,aY P,tz,Dm,aW P,tz,aU P,aR P,aQ P,tz,Dm,aP P,tz,aM P,aK P,aJ P,tz,Dm,aH P,tz,aG P,aD P,aC P,aB P,aA P,Z_ P,Z9 P,Z8 P]
def nA (P:Pz):BT:=iF (iL (nC P) [(3,X8r P),(12,X7b P),(708,sI P)]) 775 (x20 P)
theorem yc(p:U8)(b:W9)(w:W1)(os:OsState):gs p b w os 442 nC 775 1219 pK (Pos.mk 446 0 472 20) nA 837 1295 (Pos.mk 473 0 502 20):=by unfold gs;rw[PySem.W.Fast.te10110043849684766642,PySem.W.Fast.te14364793385576792824];kernel_rfl
def wB(P:Pz):List DictEntry:=wA P++[(dn P "rows_at_start" 1300 (.ref 841)),(dn P "check_turns" 1310 (.ref 848)),(dn P "FIGURES" 1314 (.str "0123456789" 1313)),(dn P "parts_of" 1321 (.ref 855)),(dn P "words_of" 1327 (.ref 860)),(dn P "read_move" 1333 (.ref 865)),(dn P "is_figure" 1340 (.ref 872)),(dn P "FIGURES_OF_CELLS" 1349 (.ref 873)),(dn P "MOST_LOOKS" 1351 (.int 6 1350)),(dn P "read_play" 1361 (.ref 880)),(dn P "read_parts" 1374 (.ref 887)),(dn P "read_part" 1383 (.ref 894)),(dn P "read_look" 1392 (.ref 901)),(dn P "ends" 1400 (.ref 907))]
def X8q(P:Pz):=DP ((dn P "__name__" 165 (.str "spinboard.desk" 1393))::wB P) 126
def rH(P:Pz):List Value:=rG P++[(.int 503 0),(.int 0 0),(.ref 840),(.int 505 0),(.int 0 0),(.ref 847),(.int 512 0),(.int 0 0),(.ref 854),(.int 514 0),(.int 0 0),(.ref 859),(.int 516 0),(.int 0 0),(.ref 864),(.int 525 0),(.int 0 0),(.ref 871),(.int 530 0),(.int 0 0),(.ref 879),(.int 539 0),(.int 0 0),(.ref 886),(.int 552 0),(.int 0 0),(.ref 893),(.int 557 0),(.int 0 0),(.ref 900),(.int 564 0),(.int 0 0),(.ref 906)]
def X7a(P:Pz):=Cp (rH P)
def SM(P:Pz):=tq #[(.str "1" 1343),(.str "2" 1344),(.str "3" 1345),(.str "4" 1346),(.str "5" 1347),(.str "6" 1348)]
def MJ(P:Pz):=tq #[(.bool false)]
def Z7(P:Pz):=(Ey "ends" "ends" (top 132) 0 0)
def Z6(P:Pz):=(DW "ends" 1395 "ends" 1396 1397 564 2 0 0 3 903 true 181 904 .none .none (.ref 905) 1398 564 1399)
noncomputable def SJ(P:Pz):=Obj.mk (.type "function") none (Data.func (FuncData.mk "ends" "ends" (Cr (top 132)) (FuncBody.stmts (Cj (top 132))) (Bh (top 132)) 3 [] (.ref 902) .none .none (.str "spinboard.desk" 1393) none (.ref 906) .none 0)) #[]
def x21(P:Pz):List Obj:=T_ "rows_at_start" 116 503 2 837 1295 []++(T_ "check_turns" 117 505 2 842 1301 ["row","cells","place","move"]++(Mg "parts_of" 120 512 1 849 1315 ["text"]++(Mg "words_of" 121 514 1 856 1322 []++(Mg "read_move" 122 516 2 861 1328 []++(Mg "is_figure" 123 525 1 866 1334 ["word"]++([SM P]++(Mf "read_play" 127 530 1 874 1352 ["text","sides","figures","cells"]++(Mf "read_parts" 128 539 2 881 1362 ["text","cells","parts","looks","place","written","part"]++(Mf "read_part" 129 552 2 888 1375 ["written","cells","words"]++(Mf "read_look" 130 557 2 895 1384 ["text","cells","told"]++([MJ P,tz,Dm,Z7 P,Z6 P,SJ P])))))))))))
def m_ (P:Pz):BT:=iF (iL (nA P) [(3,X8q P),(12,X7a P)]) 837 (x21 P)
theorem yZ(p:U8)(b:W9)(w:W1)(os:OsState):gs p b w os 386 nA 837 1295 pJ (Pos.mk 473 0 502 20) m_ 908 1401 (Pos.mk 564 0 577 67):=by unfold gs;rw[PySem.W.Fast.te10110043849684766642,PySem.W.Fast.te14364793385576792824];kernel_rfl
def X8e(P:Pz):List DictEntry:=wB P++[(dn P "check_parts" 1408 (.ref 914)),(dn P "ways_behind" 1422 (.ref 921)),(dn P "take_all" 1432 (.ref 928)),(dn P "settled_twin" 1442 (.ref 935)),(dn P "tell" 1448 (.ref 941)),(dn P "show_end" 1454 (.ref 946)),(dn P "_law_cell_at" 1464 (.ref 953)),(dn P "_law_whole" 1471 (.ref 960)),(dn P "_law_move" 1482 (.ref 967)),(dn P "_law_back" 1489 (.ref 974)),(dn P "_law_text" 1495 (.ref 979)),(dn P "law" 1501 (.ref 984))]
def vB(P:Pz):=DP ((dn P "__name__" 165 (.str "law_spinboard_k93_whole_there_and_back" 1455))::X8e P) 138
def X5e(P:Pz):List Value:=rH P++[(.int 578 0),(.int 0 0),(.ref 913),(.int 582 0),(.int 0 0),(.ref 920),(.int 591 0),(.int 0 0),(.ref 927),(.int 594 0),(.int 0 0),(.ref 934),(.int 598 0),(.int 0 0),(.ref 940),(.int 600 0),(.int 0 0),(.ref 945),(.int 604 0),(.int 0 0),(.ref 952),(.int 608 0),(.int 0 0),(.ref 959),(.int 610 0),(.int 0 0),(.ref 966),(.int 623 0),(.int 0 0),(.ref 973),(.int 627 0),(.int 0 0),(.ref 978),(.int 629 0),(.int 0 0),(.ref 983)]
def wM(P:Pz):=Cp (X5e P)
def Z5(P:Pz):=(Ey "tell" "tell" (top 137) 0 0)
def Z4(P:Pz):=(DW "tell" 1443 "tell" 1444 1445 598 2 0 0 3 937 true 181 938 .none .none (.ref 939) 1446 598 1447)
noncomputable def R_(P:Pz):=Obj.mk (.type "function") none (Data.func (FuncData.mk "tell" "tell" (Cr (top 137)) (FuncBody.stmts (Cj (top 137))) (Bh (top 137)) 3 [] (.ref 936) .none .none (.str "spinboard.desk" 1393) none (.ref 940) .none 0)) #[]
def x22(P:Pz):List Obj:=Kz "check_parts" 133 578 1 908 1401 ["parts","place"]++(Kz "ways_behind" 134 582 3 915 1409 ["ways","row","mark","further","outs","holder","shares","outcome"]++(Kz "take_all" 135 591 2 922 1423 ["ways","row","outs","holder"]++(Kz "settled_twin" 136 594 3 929 1433 ["holder","mark","outcome","twin"]++([MJ P,tz,Dm,Z5 P,Z4 P,R_ P]++(Kz "show_end" 138 600 2 942 1449 []++(Jt "_law_cell_at" 140 604 2 947 1457 ["_law_script","_law_k"]++(Jt "_law_whole" 141 608 1 954 1465 ["_law_found"]++(Jt "_law_move" 142 610 2 961 1472 ["_law_cell","_law_cells","_law_one","_law_two","_law_kind"]++(Jt "_law_back" 143 623 1 968 1483 ["_law_move_here"]++(Jt "_law_text" 144 627 1 975 1490 []++(Jt "law" 145 629 1 980 1496 [])))))))))))
def xU (P:Pz):BT:=iF (iL (m_ P) [(3,vB P),(12,wM P)]) 908 (x22 P)
theorem yX(p:U8)(b:W9)(w:W1)(os:OsState):gs p b w os 366 m_ 908 1401 pI (Pos.mk 564 0 577 67) xU 985 1502 (Pos.mk 629 0 658 91):=by unfold gs;rw[PySem.W.Fast.te10110043849684766642,PySem.W.Fast.te14364793385576792824];kernel_rfl
def Hl(P:Pz):List Obj:=[boot_o_0 P,boot_o_1 P,boot_o_2 P,vB P,boot_o_4 P,boot_o_5 P,boot_o_6 P,boot_o_7 P,boot_o_8 P,boot_o_9 P,boot_o_10 P,tz,wM P,jU P,jK P]++(((x1 P).set 16 (wN P))++((x2 P)++((x3 P)++((x4 P)++((x5 P)++((x6 P)++((x7 P)++((x8 P)++((x9 P)++((x10 P)++((x11 P)++((x12 P)++((oG P)++((oF P)++((oE P)++((oA P)++((x17 P)++(((x18 P).set 37 (sI P))++((n_ P)++((x20 P)++((x21 P)++(x22 P))))))))))))))))))))))
def Hf (P:Pz):Heap:=Heap.mk (Array.mk (Hl P)) life
theorem ji(w:W1)(os:OsState):topRun treeTable pr w 11 (some (.ref 6)) 2 ((SharedT.mk (xU w.params) 985 life (Array.mk []) (Drawn.mk 0 0 0 0) 1502 os).abs) (Thread.mk (doneF .next) cE (Pos.mk 629 0 658 91) BB)=some (Shared.mk (Hf w.params) (Array.mk []) (Drawn.mk 0 0 0 0) 1502 os):=by rw[PySem.W.Fast.te14082659384304107361,PySem.W.Fast.te14364793385576792824];kernel_rfl
noncomputable abbrev MM:Nat:=12+(1+(225+(214+(214+(214+(214+(214+(214+(214+(246+(382+(383+(382+(342+(373+(392+(394+(262+(321+(441+(442+(386+(366+2)))))))))))))))))))))))
theorem Xy(w:W1)(os:OsState):topRun treeTable pr w 11 (some (.ref 6)) MM (Shared.mk (boot_heap w.params) (Array.mk []) boot_drawn boot_toks os) (topStub pr)=some (Shared.mk (Hf w.params) (Array.mk []) (Drawn.mk 0 0 0 0) 1502 os):=go_top (ZD w os) (piece_block (X7x w os) (Fo (Fp (g0 _ _ w os)) (Fo (Fp (g1 _ _ w os)) (Fo (Fp (g2 _ _ w os)) (Fo (Fp (g3 _ _ w os)) (Fo (Fp (g4 _ _ w os)) (Fo (Fp (g5 _ _ w os)) (Fo (Fp (g6 _ _ w os)) (Fo (Fp (g7 _ _ w os)) (Fo (Fp (g8 _ _ w os)) (Fo (Fp (g9 _ _ w os)) (Fo (Fp (yu _ _ w os)) (Fo (Fp (yt _ _ w os)) (Fo (Fp (yr _ _ w os)) (Fo (Fp (yq _ _ w os)) (Fo (Fp (yp _ _ w os)) (Fo (Fp (yj _ _ w os)) (Fo (Fp (yh _ _ w os)) (Fo (Fp (yg _ _ w os)) (Fo (Fp (yd _ _ w os)) (Fo (Fp (yc _ _ w os)) (Fo (Fp (yZ _ _ w os)) (Fo (Fp (yX _ _ w os)) (piece_nil (ji w os)))))))))))))))))))))))))
noncomputable def qq:Program:={pr with main:={ pr.main with body:=[top 0,top 2,top 3,top 4,top 5,top 6,top 7,top 8,top 9,top 10,top 11,top 13,top 15,top 16,top 17,top 18,top 19,top 21,top 22,top 23,top 24,top 25,top 26,top 27,top 28,top 29,top 31,top 32,top 33,top 34,top 35,top 36,top 37,top 38,top 39,top 40,top 42,top 43,top 44,top 46,top 47,top 48,top 49,top 50,top 52,top 53,top 54,top 55,top 56,top 57,top 58,top 60,top 61,top 62,top 63,top 64,top 65,top 66,top 67,top 68,top 69,top 71,top 73,top 74,top 75,top 76,top 78,top 79,top 80,top 81,top 82,top 83,top 84,top 85,top 86,top 87,top 88,top 89,top 90,top 91,top 93,top 94,top 96,top 97,top 98,top 99,top 100,top 101,top 102,top 103,top 104,top 105,top 106,top 107,top 108,top 109,top 110,top 111,top 113,top 114,top 115,top 116,top 117,top 119,top 120,top 121,top 122,top 123,top 125,top 126,top 127,top 128,top 129,top 130,top 133,top 134,top 135,top 136,top 138,top 140,top 141,top 142,top 143,top 144,top 145]}}
noncomputable def loose:List PySem.Str:=[Str.ofString "share",Str.ofString "start",Str.ofString "NUMBERS_BEHIND",Str.ofString "AmountHolder",Str.ofString "SignHolder",Str.ofString "ends",Str.ofString "tell"]
noncomputable def lv:List (PySem.Str×WData):=[]
noncomputable abbrev NN:Nat:=13752
noncomputable def aa:List Addr:=[2,3,15,17,18,20,21,22,29,30,31,32,35,42,43,44,47,54,55,56,59,66,67,68,71,78,79,80,83,90,91,92,95,102,103,104,107,114,115,116,119,126,128,129,131,132,133,134,135,138,145,147,148,150,151,152,153,154,157,159,160,162,163,164,165,167,168,170,171,172,174,175,177,178,179,181,182,184,185,186,188,189,191,192,193,196,197,198,200,201,203,204,205,207,208,210,211,212,215,216,217,219,220,222,223,224,227,228,229,231,232,234,235,236,238,239,241,242,243,245,246,248,249,250,252,253,255,256,257,259,260,262,263,264,266,267,269,270,271,273,274,276,277,278,280,281,283,284,285,287,288,290,291,292,294,295,297,298,299,301,302,304,305,306,308,309,311,312,313,315,316,318,319,320,322,323,325,326,327,328,329,330,333,334,335,337,338,340,341,342,344,345,347,348,349,351,352,354,355,356,359,360,361,363,364,366,367,368,370,371,373,374,375,377,378,380,381,382,385,386,387,389,390,392,393,394,397,398,399,401,402,404,405,406,408,409,411,412,413,414,417,418,419,422,423,424,426,427,429,430,431,434,435,436,439,440,441,443,444,446,447,448,451,452,453,456,457,458,460,461,463,464,465,467,468,470,471,472,474,475,477,478,479,481,482,484,485,486,489,490,491,493,494,496,497,498,499,502,503,504,507,508,509,511,512,514,515,516,519,520,521,523,524,526,527,528,530,531,533,534,535,537,538,540,541,542,544,545,547,548,549,552,553,554,557,558,559,561,562,564,565,566,569,570,571,574,575,576,579,580,581,582,583,584,586,587,589,590,591,593,594,596,597,598,600,601,603,604,605,608,609,610,612,613,615,616,617,619,620,622,623,624,626,627,629,630,631,633,634,636,637,638,640,641,643,644,645,647,648,650,651,652,654,655,657,658,659,661,662,664,665,666,669,670,678,680,681,683,684,685,687,688,690,691,692,694,695,697,698,699,701,702,704,705,706,707,708,709,710,713,720,721,723,724,726,727,728,730,731,733,734,735,737,738,740,741,742,744,745,747,748,749,751,752,754,755,756,758,759,761,762,763,765,766,768,769,770,771,772,775,782,783,785,786,788,789,790,792,793,795,796,797,799,800,802,803,804,806,807,809,810,811,813,814,816,817,818,820,821,823,824,825,827,828,830,831,832,833,834,837,840,841,842,844,845,847,848,849,851,852,854,855,856,859,860,861,864,865,866,868,869,871,872,873,874,876,877,879,880,881,883,884,886,887,888,890,891,893,894,895,897,898,900,901,902,903,906,907,908,910,911,913,914,915,917,918,920,921,922,924,925,927,928,929,931,932,934,935,936,937,940,941,942,945,946,947,949,950,952,953,954,956,957,959,960,961,963,964,966,967,968,970,971,973,974,975,978,979,980,983,984]
def KK (P:Pz):Frag:=aa.map λa=>(a,(Hl P).getD a Dm)
theorem X8n:∀w:World,(fencedOpening treeTable pr w NN).map (λs=>(s.heap,s.gens,s.drawn,s.toks))=some (boot_heap w.params,Array.mk [],boot_drawn,boot_toks):=
 boot_open (p:=pr) (N:=NN) (by kernel_rfl) (by kernel_rfl) (λs=>by kernel_rfl)
theorem X8h(w:W1):((boot_heap w.params).isNs mainGlobals && (Array.mk []:Array GenState).size == 0,(boot_heap w.params).objs.size,(boot_heap w.params).nsMap mainGlobals "__annotations__")=(true,11,((some (.ref 6)):Option Value)):=by kernel_rfl
theorem yN:Nat.ble MM NN=true:=by kernel_rfl
noncomputable abbrev rr:OpenRow:=PySem.Challenge.rw_spinboard_k93_whole_there_and_back.row
noncomputable abbrev HH:Hook:=kHook KK aa (λ_=>by kernel_rfl)
noncomputable abbrev Xt (s:U7):Bool:=xlAt qq lv s && recOk (RowW.records rr.toRowW) s
noncomputable abbrev sf (w:W1)(os:OsState):Shared:=Shared.mk (Hf w.params) (Array.mk []) (Drawn.mk 0 0 0 0) 1502 os
theorem yM(w:W1)(os:OsState):(staticsOk (importedModules pr.main.body) (boot_heap w.params) (Hf w.params) && namesBound pr (Hf w.params) && gensDone (sf w os) && laidKept (boot_heap w.params) (Hf w.params))=true:=by rw[PySem.W.Fast.te5923862056798008813];kernel_rfl
theorem ZJ{q:U8}{l}:∀{x},x.1=expectedOf q->x.2.1=bltViewBooted->x.2.2.1=true->x.2.2.2.1=true->x.2.2.2.2=(pinGoodD (drecsOf q),plainGoodE q (looseW q l),plainGoodD q l,wideGood q,clsGoodW q l)->x=openGood q l
 | (_,_,_,_,_),rfl,rfl,rfl,rfl,rfl=>rfl
theorem ZQ(w:W1)(os:OsState):(openSeen qq loose (importedModules pr.main.body) Xt true (sf w os)).1=expectedOf qq:=by rw[PySem.W.Fast.te4187177175401517315,PySem.W.Fast.te5923862056798008813];kernel_rfl
theorem ZP(w:W1)(os:OsState):(openSeen qq loose (importedModules pr.main.body) Xt true (sf w os)).2.1=bltViewBooted:=by rw[PySem.W.Fast.te4187177175401517315,PySem.W.Fast.te5923862056798008813];kernel_rfl
theorem ZM(w:W1)(os:OsState):(openSeen qq loose (importedModules pr.main.body) Xt true (sf w os)).2.2.1=true:=by rw[PySem.W.Fast.te4187177175401517315,PySem.W.Fast.te5923862056798008813];kernel_rfl
theorem ZL(w:W1)(os:OsState):(openSeen qq loose (importedModules pr.main.body) Xt true (sf w os)).2.2.2.1=true:=by rw[PySem.W.Fast.te4187177175401517315,PySem.W.Fast.te5923862056798008813];kernel_rfl
theorem ZKg{A B C D E:Type}{a:A}{b:B}{c:C}{d:D}{e:E}:∀{x:A×B×C×D×E},x.1=a->x.2.1=b->x.2.2.1=c->x.2.2.2.1=d->x.2.2.2.2=e->x=(a,b,c,d,e)
| (_,_,_,_,_),rfl,rfl,rfl,rfl,rfl=>rfl
theorem ZKa(w:W1)(os:OsState):(openSeen qq loose (importedModules pr.main.body) Xt true (sf w os)).2.2.2.2.1=pinGoodD (drecsOf qq):=by rw[PySem.W.Fast.te4187177175401517315,PySem.W.Fast.te5923862056798008813];kernel_rfl
theorem ZKb(w:W1)(os:OsState):(openSeen qq loose (importedModules pr.main.body) Xt true (sf w os)).2.2.2.2.2.1=plainGoodE qq (looseW qq loose):=by unfold plainGoodE plainsOf;rw[PySem.W.Fast.te4187177175401517315,PySem.W.Fast.te5923862056798008813,PySem.W.Fast.te821141287760084731,PySem.W.Fast.te13664370479719496447];kernel_rfl
theorem ZKc(w:W1)(os:OsState):(openSeen qq loose (importedModules pr.main.body) Xt true (sf w os)).2.2.2.2.2.2.1=plainGoodD qq loose:=by rw[PySem.W.Fast.te4187177175401517315,PySem.W.Fast.te5923862056798008813];kernel_rfl
theorem ZKd(w:W1)(os:OsState):(openSeen qq loose (importedModules pr.main.body) Xt true (sf w os)).2.2.2.2.2.2.2.1=wideGood qq:=by rw[PySem.W.Fast.te4187177175401517315,PySem.W.Fast.te5923862056798008813];kernel_rfl
theorem ZKe(w:W1)(os:OsState):(openSeen qq loose (importedModules pr.main.body) Xt true (sf w os)).2.2.2.2.2.2.2.2=clsGoodW qq loose:=by rw[PySem.W.Fast.te4187177175401517315,PySem.W.Fast.te5923862056798008813];kernel_rfl
theorem ZK(w:W1)(os:OsState):(openSeen qq loose (importedModules pr.main.body) Xt true (sf w os)).2.2.2.2=(pinGoodD (drecsOf qq),plainGoodE qq (looseW qq loose),plainGoodD qq loose,wideGood qq,clsGoodW qq loose):=ZKg (ZKa w os) (ZKb w os) (ZKc w os) (ZKd w os) (ZKe w os)
theorem yL(w:W1)(os:OsState):openSeen qq loose (importedModules pr.main.body) Xt true (sf w os)=openGood qq loose:=ZJ (ZQ w os) (ZP w os) (ZM w os) (ZL w os) (ZK w os)
noncomputable def nf9 (o : Obj) : Bool := match o.data with
  | .freed => false
  | _ => true
noncomputable def ck9 : List Obj → Nat → List Addr → Bool
  | _, _, [] => true
  | [], _, _ :: _ => false
  | o :: l, i, a :: as => match Nat.beq a i with
    | true => nf9 o && ck9 l (i + 1) as
    | false => ck9 l (i + 1) (a :: as)
theorem ca9 : ∀ {l : List Obj} {i : Nat} {as : List Addr}, ck9 l i as = true → ∀ a ∈ as, i ≤ a ∧ ∃ o, l[a - i]? = some o ∧ nf9 o = true
  | _, _, [], _, a, h => by cases h
  | [], _, _ :: _, h, _, _ => by cases h
  | o :: l, i, b :: as, h, a, m => by
    rw [ck9] at h
    have st : ∀ {bs}, ck9 l (i + 1) bs = true → a ∈ bs → i ≤ a ∧ ∃ o', (o :: l)[a - i]? = some o' ∧ nf9 o' = true := fun hb m' => by
      obtain ⟨le, o', h1, h2⟩ := ca9 hb a m'
      have le : i + 1 ≤ a := le
      obtain ⟨k, rfl⟩ := Nat.exists_eq_add_of_le le
      rw [Nat.add_sub_cancel_left] at h1
      refine ⟨Nat.le_trans (Nat.le_succ i) le, o', ?_, h2⟩
      rw [show i + 1 + k - i = k + 1 by rw [Nat.add_assoc, Nat.add_sub_cancel_left, Nat.add_comm]]
      exact h1
    split at h
    · rename_i e
      rw [Bool.and_eq_true] at h
      have e := Nat.eq_of_beq_eq_true e
      rcases List.mem_cons.mp m with m | m
      · rw [m, e, Nat.sub_self]; exact ⟨Nat.le_refl _, o, rfl, h.1⟩
      · exact st h.2 m
    · exact st h m
theorem ob9 {l : List Obj} {d : Obj} {f : Life} {as : List Addr} (h : ck9 l 0 as = true) : as.map (Heap.mk (Array.mk l) f).get? = (as.map fun a => (a, l.getD a d)).map fun p => some p.2 := by
  rw [List.map_map]
  refine List.map_congr_left fun a m => ?_
  obtain ⟨_, o, h1, h2⟩ := ca9 h a m
  show (match (Array.mk l)[a]? with | some ⟨_, _, .freed, _⟩ => none | o => o) = some (l.getD a d)
  have h1 : l[a]? = some o := h1
  rw [show (Array.mk l)[a]? = l[a]? from List.getElem?_toArray, List.getD_eq_getElem?_getD, h1]
  show (match some o with | some ⟨_, _, .freed, _⟩ => none | o => o) = some o
  obtain ⟨c, x, t, s⟩ := o
  cases t <;> first | rfl | cases h2
theorem yK(w:W1)(os:OsState):HH.obs (sf w os)=HH.val w:=ob9 (show ck9 (Hl w.params) 0 aa=true by kernel_rfl)
theorem R7:LeftO pr qq loose Xt HH.obs HH.val NN :=
 LeftO.of_pieces (H₀:=boot_heap) (H₁:=Hf) X8n X8h Xy yN λw=>funext λos=>looks_pair (yM w os) (looks_pair (yL w os) (yK w os))
theorem RM:PySem.Challenge.rw_spinboard_k93_whole_there_and_back.wellSaid=true:=by rw[PySem.W.Fast.te9446332074065402090];kernel_rfl
theorem ZS(P:Pz):(KK P).lookup 984=some (Ov "law" 145 983):=by kernel_rfl
theorem Z1(P:Pz):(KK P).lookup 171=some (Tj P):=by kernel_rfl
theorem Z0(P:Pz):(KK P).lookup 242=some (Ti P):=by kernel_rfl
theorem Zz(P:Pz):(KK P).lookup 256=some (Te P):=by kernel_rfl
theorem Zv(P:Pz):(KK P).lookup 334=some (TX P):=by kernel_rfl
theorem Zt(P:Pz):(KK P).lookup 430=some (TQ P):=by kernel_rfl
theorem ZX(P:Pz):(KK P).lookup 907=some (SJ P):=by kernel_rfl
theorem ZV(P:Pz):(KK P).lookup 941=some (R_ P):=by kernel_rfl
theorem Zw(P:Pz):(KK P).lookup 329=some (TY P):=by kernel_rfl
theorem Zx(P:Pz):(KK P).lookup 328=some (Tc P):=by kernel_rfl
theorem Zy(P:Pz):(KK P).lookup 327=some (Td P):=by kernel_rfl
theorem Zu(P:Pz):(KK P).lookup 413=some (TV P):=by kernel_rfl
theorem Zr(P:Pz):(KK P).lookup 581=some (TJ P):=by kernel_rfl
theorem Zq(P:Pz):(KK P).lookup 582=some (TF P):=by kernel_rfl
theorem Zb(P:Pz):(KK P).lookup 873=some (SM P):=by kernel_rfl
theorem Z2(P:Pz):(KK P).lookup 164=some (Tn P):=by kernel_rfl
theorem Za(P:Pz):(KK P).lookup 902=some (MJ P):=by kernel_rfl
theorem ZW(P:Pz):(KK P).lookup 936=some (MJ P):=by kernel_rfl
theorem Zi(P:Pz):(KK P).lookup 720=some (Sv P):=by kernel_rfl
theorem Zm(P:Pz):(KK P).lookup 684=some (S_ P):=by kernel_rfl
theorem Zh(P:Pz):(KK P).lookup 727=some (Ss P):=by kernel_rfl
theorem Zg(P:Pz):(KK P).lookup 734=some (Sq P):=by kernel_rfl
theorem Zj(P:Pz):(KK P).lookup 698=some (Sx P):=by kernel_rfl
theorem Zk(P:Pz):(KK P).lookup 691=some (Sy P):=by kernel_rfl
theorem Zd(P:Pz):(KK P).lookup 755=some (SQ P):=by kernel_rfl
theorem Ze(P:Pz):(KK P).lookup 748=some (Sd P):=by kernel_rfl
theorem Zf(P:Pz):(KK P).lookup 741=some (Sg P):=by kernel_rfl
theorem Zc(P:Pz):(KK P).lookup 769=some (SN P):=by kernel_rfl
theorem ft{K:U0}{x:Str}{st:Stmt}{f:Y0}{oc:W2}{od an:W5}{osl:W4}{dV kV doc pm cdv ct:W2}
  (l:K.lookup f=some ⟨oc,od,.func (PySem.W.fnOf x x (Cr st) (Cj st) (Bh st) dV kV doc pm an cdv ct),osl⟩) (a:PySem.W.nsIn K mainGlobals x=some (some (.ref f)):=by kernel_rfl) (c:PySem.W.codeIn K cdv x=true:=by kernel_rfl) (k:PySem.W.keepIn K (.ref f)=true:=by kernel_rfl):Aa K x st dV:=yw a l c k
theorem fz{P:Pz}{n:Str}{i:Nat}(m:Str)(mt a c:Nat)(l:(KK P).lookup a=some (Gf n n (top i) 3 m mt c 0):=by kernel_rfl)(x:PySem.W.nsIn (KK P) mainGlobals n=some (some (.ref a)):=by kernel_rfl)(y:PySem.W.codeIn (KK P) (.ref c) n=true:=by kernel_rfl)(z:PySem.W.keepIn (KK P) (.ref a)=true:=by kernel_rfl):Aa (KK P) n (top i) .none:=ft l x y z
theorem zF(P:Pz):Aa (KK P) "share" (top 14) (.ref 164):=ft (Z1 P)
theorem zE(P:Pz):Aa (KK P) "spun_once" (top 26) .none:=ft (Z0 P)
theorem zB(P:Pz):Aa (KK P) "rooted" (top 28) .none:=ft (Zz P)
theorem zA(P:Pz):Aa (KK P) "start" (top 45) (.ref 329):=ft (Zv P)
theorem yx(P:Pz):Aa (KK P) "named_cells" (top 63) .none:=ft (Zt P)
theorem jm(P:Pz):Aa (KK P) "ends" (top 132) (.ref 902):=ft (ZX P)
theorem jj(P:Pz):Aa (KK P) "tell" (top 137) (.ref 936):=ft (ZV P)
end Hd
end Ai
end
set_option maxHeartbeats 4000000
namespace Ai
open L2 Am Pc Ba
section
variable {P:U8}{w:W1}{K:U0}{mg:U4}{base:Heap}{k:Nat}{h:Heap}
theorem u9{x:Int}(h1:-16<x)(h2:x<16):Sz 100 x:=Sz.mono (j:=5) (by unfold Sz;omega) (by decide)
theorem s_0:Sz 100 0:=u9 (by decide) (by decide)
theorem s_1:Sz 100 1:=u9 (by decide) (by decide)
theorem Ni:(0:Int)<=40:=by decide
def Ce (K:U0)(H:Hp)(p:Y0)(x:A5):Prop:=Ah K H p ((l5 x).map V.int)
variable{H:Hp}{p:Y0}{x:A5}
theorem Ce.of(h:H p=some (tA x)):Ce K H p x:=Ah.of h
variable{H':Hp}
theorem Ce.same(h:Ce K H p x)(s:Same H H'):Ce K H' p x:=s.tup h
variable{xs ys:List V}
theorem Ce.upd{l:Y0}(h:Ce K H p x)(e:H l=some (.lst xs)):Ce K (upd H l (.lst ys)) p x:=by
 rcases h with h | h
 ·rcases h with h | ⟨o,h⟩
  ·exact .inl (.inl (by rw[CK (Gg h e (by intro z;cases z))];exact h))
  ·exact .inl (.inr ⟨o,by rw[CK (Gg h e (by intro z;cases z))];exact h⟩)
 ·exact .inr h
def BR (K:U0)(H:Hp)(ps:U3)(f:Nat->A5):Prop:=∀i p,ps[i]?=some p->Ce K H p (f i)
variable{ps:U3}{f:Nat->A5}
theorem BR.same(v:BR K H ps f)(s:Same H H'):BR K H' ps f:=λi p e=>(v i p e).same s
theorem Mr(v:BR K H ps f)(s:Same H H')(e:Ce K H' p x):BR K H' (ps++[p]) (λj=>if j=ps.length then x else f j):=by
 intro i q a;by_cases hi:i<ps.length
 ·rw[Y9 hi]at a;show Ce K H' q (if i=ps.length then x else f i);rw[if_neg (by omega)];exact(v i q a).same s
 ·rw[pF (by omega)]at a;have b:i=ps.length:=by
   have:=(Fb.mp a).1;simp at this;omega
  subst b;simp at a;subst a;show Ce K H' _ (if ps.length=ps.length then x else f ps.length);rw[if_pos rfl];exact e
theorem Ml{l:Y0}(v:BR K H ps f)(e:H l=some (.lst xs)):BR K (upd H l (.lst ys)) ps f:=λi q a=>(v i q a).upd e
theorem lu{X:Cx}:CJ X (.builtin "isinstance") (λxs H Q=>∃a ys,xs=[.ref a,.ty "tuple"]/\Ah X.K H a ys/\Q (.bl true) H):=by
 intro pins s σ H xs us Q I r h;obtain⟨a,ys,rfl,b,q⟩:=h;obtain⟨u,v,rfl,c,d⟩:=r.two;cases c;cases d;obtain⟨its,_,⟨o,h1,h2,_⟩,_⟩:=I.tuple b;exact J0 PySem.W.kitx_tuple I.kIn ⟨o,h1,h2⟩ (XD X.K) (λz=>nomatch z) λtk=>⟨.bl true,H,I.tok tk,U,q⟩
theorem j5{a:Y0}{ns:U6}{te:TE}{fr:L2.St}{H1:Hp}{acc:Y0}{Q:VK}(f:Int->V)(hl:Ah K H1 a (ns.map V.int))(hn:ns.length<=sizeLine)(hacc:H1 acc=none)(hs:∀n H (N:V->Hp->Prop),n∈ns->Same H1 H->N (f n) H->te (some (.int n)::fr) H N)
  (hd:∀H2,Same H1 H2->H2 acc=some (.lst (ns.map f))->Q (.ref acc) H2):Hq (N6 K a) (Bf 0) te (none::fr) H1 acc Q:=by
 refine sJ (n:=ns.length) (val:=λi=>.int (ns.getD i 0)) (λi=>f (ns.getD i 0)) hn hacc (λi H hi s=>?_) (λH s=>⟨_,s.tup hl,by simp⟩) (λi H N hi s b=>hs _ H N (by simp[hi]) s b) (λH2 s h=>hd H2 s (by rw[h,Y3p]));have e:(ns.map V.int)[i]?=some (.int (ns.getD i 0)):=by simp[hi]
 refine⟨⟨_,_,s.tup hl,e⟩,λx H' y=>⟨y.1,?_⟩⟩;have:=y.2 _ (s.tup hl);rw[e]at this;exact(Option.some.inj this).symm
theorem Jf:¬ (HT.Bp 5 0 none=0/\HT.Bp 5 5 (some 4)=5):=by decide
def EY:Sp:=λvs H Q _=>∃a b c d h:Int,vs=[.int a,.int b,.int c,.int d,.int h]/\0<=h/\∀(p:Y0) (H':Hp) (x y z u g:Int),Same H H'->H' p=some (T5 x y z u g)->Red a b c d h x y z u g->Q (.ref p) H'
def uq:Sp:=λvs H Q _=>∃(p:Y0) (a b c d h:Int),vs=[.ref p]/\H p=some (T5 a b c d h)/\0<=h/\∀(r:Y0) (H':Hp) (x y z u g:Int),Same H H'->H' r=some (T5 x y z u g)->Red (b-d) (a+c) (b+d) (c-a) (h+1) x y z u g->Q (.ref r) H'
def WW (K:U0):Sp:=λvs H Q _=>∃(p:Y0) (a b c d h:Int),vs=[.ref p]/\Ce K H p ((a,b,c,d),h)/\∀(r:Y0) (H':Hp),Same H H'->H' r=some (T5 (-d) a b c h)->Q (.ref r) H'
def QZ (K:U0):Sp:=λvs H Q _=>∃(p:Y0) (a b c d h k:Int),vs=[.ref p,.int k]/\Ce K H p ((a,b,c,d),h)/\∀(r:Y0) (H':Hp),Same H H'->Ce K H' r (Bb (k%8).toNat (a,b,c,d),h)->Q (.ref r) H'
theorem X3c(F:Aa K "halved_out" (top 21) .none)(X:K.In h)(G:Ng h mg)(B:Bs mg):Ag P w K mg base (k+1) "halved_out" ["a","b","c","d","h"] EY:=by
 refine F.cal X G ["a","b","c","d","h","places","lowest","less"] λg H vs Q E y h=>?_;obtain⟨a,b,c,d,h,rfl,j,q⟩:=h
 refine⟨_,(@Ak _ _ _ _ _ (@Bd _ _ 5 _ _ _ _ g rfl (Or.inl rfl) (Aq Nm (Aq Nm (Aq Nm (pv 0) (pv 1)) (pv 2)) (pv 3)) rfl (.inl rfl))
  (@Ak _ _ _ _ _ (CQ (Bq Di (pv 5) Ad (Ac _))
   (@Aj _ _ _ (Ay (@Fw _ _ _ _ _ (Ab Ad (Ab Ad (Ab Ad (Ab Ad (Ab Ad Ae))))))))
   CT)
  (@Ak _ _ _ _ _ (@Bd _ _ 6 _ _ _ _ g rfl (Or.inl rfl) (Aq G5 (XM V1 Ry V7 Wm (Aq LR (pv 5) (Np Nu (pv 5)))) Ad) rfl (.inl rfl))
  (@Ak _ _ _ _ _ (@Bd _ _ 7 _ _ _ _ g rfl (Or.inl rfl) (Cm (Y6k rfl) rfl B.min boot_min (Ab (pv 6) (Ab (pv 4) Ae))) rfl (.inl rfl))
  (@Aj _ _ _ (Ay (@Fw _ _ _ _ _ (Ab (Aq Ud (pv 0) (pv 7)) (Ab (Aq Ud (pv 1) (pv 7)) (Ab (Aq Ud (pv 2) (pv 7)) (Ab (Aq Ud (pv 3) (pv 7)) (Ab (Aq G5 (pv 4) (pv 7)) Ae)))))))))))),?_⟩
 try dsimp only[Bg]
 refine⟨_,U,_,U,_,_,U,U,_,U,_,_,U,U,_,U,_,_,U,U,?_⟩;refine⟨_,U,U,_,U,G4 (λe=>?_) (λe=>?_)⟩
 ·obtain⟨rfl,rfl,rfl,rfl⟩:=Im.mp e;exact⟨by show 5<=sizeLine;decide,λp hp=>q p _ 0 0 0 0 0 (Ax hp _) Ao ⟨⟨by omega,.inl rfl⟩,⟨by simp[Dy],by simp[Dy],by simp[Dy],by simp[Dy]⟩,Bj _,Bj _,Bj _,Bj _,j⟩⟩
 obtain⟨v,ev,l,x⟩:=lowest e;obtain⟨f,z,o,u,n,t,r,s⟩:=Tv j l x rfl;have i:((Builtin.Int.intBits (Builtin.bitAnd (Builtin.bitOr (Builtin.bitOr (Builtin.bitOr a b) c) d) (-(Builtin.bitOr (Builtin.bitOr (Builtin.bitOr a b) c) d))):Nat):Int)-1=v:=ev;refine⟨_,U,_,U,_,U,_,_,U,U,U,_,U,U,_,_,U,U,?_⟩;show Q5 _ _ _ (List.set _ 6 (some (V.int (((Builtin.Int.intBits (Builtin.bitAnd (Builtin.bitOr (Builtin.bitOr (Builtin.bitOr a b) c) d) (-(Builtin.bitOr (Builtin.bitOr (Builtin.bitOr a b) c) d))):Nat):Int)-1)))) H;rw[i];generalize hm:(if h<(v:Int) then h else (v:Int))=m at *;refine⟨_,U,_,U,_,_,U,?_⟩;rw[hm];refine⟨_,U,_,U,_,_,U,U,f,_,U,_,U,_,_,U,U,f,_,U,_,U,_,_,U,U,f,_,U,_,U,_,_,U,U,f,_,U,_,U,_,_,U,U,(by show 5<=sizeLine;decide),λp hp=>?_⟩;exact q p _ _ _ _ _ _ (Ax hp _) Ao ⟨o,u,n,t,r,s,by omega⟩
theorem X2y(F:Aa K "spun_once" (top 26) .none)(X:K.In h)(G:Ng h mg):Ag P w K mg base (k+1) "spun_once" ["one"] (WW K):=by
 refine F.cal X G ["one"] λf H vs Q E e h=>?_;obtain⟨p,a,b,c,d,h,rfl,hp,q⟩:=h;have S:Ah K H p [.int a,.int b,.int c,.int d,.int h]:=hp;refine⟨_,(@Aj _ _ _ (Ay (@Fw _ _ _ _ _ (Ab (Np Nu (Al Az (pv 0) Ad (λ_ _=>rfl))) (Ab (Al Az (pv 0) Ad (λ_ _=>rfl)) (Ab (Al Az (pv 0) Ad (λ_ _=>rfl)) (Ab (Al Az (pv 0) Ad (λ_ _=>rfl)) (Ab (Al Az (pv 0) Ad (λ_ _=>rfl)) Ae)))))))),?_⟩;try dsimp only[Bg]
 refine⟨_,U,p,_,_,_,U,U,S,U,_,U,_,U,p,_,_,_,U,U,S,U,_,U,p,_,_,_,U,U,S,U,_,U,p,_,_,_,U,U,S,U,_,U,p,_,_,_,U,U,S,U,(by show 5<=sizeLine;decide),λr e=>?_⟩;exact q r _ (Ax e _) Ao
theorem Y4q(F:Aa K "rooted" (top 28) .none)(X:K.In h)(G:Ng h mg)(c8:Ag P w K mg base k "halved_out" ["a","b","c","d","h"] EY):Ag P w K mg base (k+1) "rooted" ["one"] uq:=by
 refine F.cal X G ["one"] λl H vs Q E i h=>?_;obtain⟨p,a,b,c,d,h,rfl,hp,m,q⟩:=h;have S:Ah K H p [.int a,.int b,.int c,.int d,.int h]:=Ah.of hp;refine⟨_,(@Aj _ _ _ (Ay (Av c8 i rfl (Ab (Aq G5 (Al Az (pv 0) Ad (λ_ _=>rfl)) (Al Az (pv 0) Ad (λ_ _=>rfl))) (Ab (Aq Gu (Al Az (pv 0) Ad (λ_ _=>rfl)) (Al Az (pv 0) Ad (λ_ _=>rfl))) (Ab (Aq Gu (Al Az (pv 0) Ad (λ_ _=>rfl)) (Al Az (pv 0) Ad (λ_ _=>rfl))) (Ab (Aq G5 (Al Az (pv 0) Ad (λ_ _=>rfl)) (Al Az (pv 0) Ad (λ_ _=>rfl))) (Ab (Aq Gu (Al Az (pv 0) Ad (λ_ _=>rfl)) Ad) Ae)))))))),?_⟩;try dsimp only[Bg]
 refine⟨_,U,p,_,_,_,U,U,S,U,_,U,p,_,_,_,U,U,S,U,_,_,U,U,_,U,p,_,_,_,U,U,S,U,_,U,p,_,_,_,U,U,S,U,_,_,U,U,
  _,U,p,_,_,_,U,U,S,U,_,U,p,_,_,_,U,U,S,U,_,_,U,U,_,U,p,_,_,_,U,U,S,U,_,U,p,_,_,_,U,U,S,U,_,_,U,U,_,U,p,_,_,_,U,U,S,U,_,_,U,U,?_⟩
 exact⟨_,_,_,_,_,U,(by show 0<=h+1;omega),λr H' x y z u g e j f=>q r H' x y z u g e j f⟩
theorem X2s(F:Aa K "spun" (top 25) .none)(X:K.In h)(G:Ng h mg)(B:Bs mg)(cO:Ag P w K mg base k "spun_once" ["one"] (WW K)):Ag P w K mg base (k+1) "spun" ["one","k"] (QZ K):=by
 refine F.cal X G ["one","k","turning","step"] λf H vs Q E l h=>?_;obtain⟨p,a,b,c,d,h,j,rfl,hp,q⟩:=h;have S:Ah K H p [.int a,.int b,.int c,.int d,.int h]:=hp
 refine⟨_,(@Ak _ _ _ _ _ (@Bd _ _ 2 _ _ _ _ f rfl (Or.inl rfl) (pv 0) rfl (.inl rfl))
  (@Ak _ _ _ _ _ (Jv PassesOwn.never rfl (Mq rfl B.range (Ab (Aq Jj (pv 1) Ad) Ae)) (Ck (i:=3) f rfl (Or.inl rfl))
   (@Aj _ _ _ (@Bd _ _ 2 _ _ _ _ f rfl (Or.inl rfl) (Av cO l rfl (Ab (pv 2) Ae)) rfl (.inl rfl))))
  (@Aj _ _ _ (Ay (pv 2))))),?_⟩
 try dsimp only[Bg]
 have s:=Pq j (show (8:Int)≠0 by decide);have u:=Yl j (show (0:Int)<8 by decide);refine⟨_,U,_,U,_,_,U,U,(by show (0:Int)<8;decide),_,U,(by omega),(by omega),lQ (n:=(j%8).toNat) (λi σ H'=>Same H H'/\∃t v,σ=[some (.ref p),some (.int j),some (.ref t),v]/\Ce K H' t (Bb i (a,b,c,d),h)) ⟨Same.refl _,p,none,U,hp⟩ ?_ ?_⟩
 ·rintro i σ H2 hi ⟨g,t,v,rfl,e⟩;refine⟨_,U,t,_,_,_,_,_,U,e,λr H' m o=>?_⟩;exact⟨g.trans m,r,_,U,Ce.of o⟩
 ·rintro σ H2 ⟨g,t,v,rfl,e⟩;exact⟨_,U,q t H2 g e⟩
structure Sum (a b c d h a' b' c' d' h' x y z u g:Int):Prop where
 amt:Fx x y z u g
 same:CG (a*p2 h'+a'*p2 h) (b*p2 h'+b'*p2 h) (c*p2 h'+c'*p2 h) (d*p2 h'+d'*p2 h) (h+h') x y z u g
 le:g<=max h h'
theorem XS{a a' h h' m:Int}(h0:0<=h)(h0':0<=h')(hm:h<=m)(hm':h'<=m):Dy (a*p2 h'+a'*p2 h) (h+h') (a*2^(m-h).toNat+a'*2^(m-h').toNat) m:=by
 unfold Dy;rw[H_ h0 h0'];show _=(a*p2 (m-h)+a'*p2 (m-h'))*(p2 h*p2 h');have c:=Ju h0 hm;have b:=Ju h0' hm';have l1:(a*p2 h'+a'*p2 h)*p2 m=a*p2 h'*p2 m+a'*p2 h*p2 m:=Int.add_mul ..;rw[l1,show a*p2 h'*p2 m=a*p2 h'*(p2 (m-h)*p2 h) by rw[<-c],show a'*p2 h*p2 m=a'*p2 h*(p2 (m-h')*p2 h') by rw[<-b]];grind
theorem Uh(n:Nat):Sz (n+1) ((2:Int)^n):=by
 unfold Sz;rw[Int.natAbs_pow];exact Nat.pow_lt_pow_right (by decide) (Px n)
theorem Xa{a a' h h' m:Int}{n N:Nat}(hm:m-h<=h'/\m-h'<=h)(z:Sz n a)(z':Sz n a')(hN:n+h.toNat+h'.toNat+2<=N):Sz N (a*2^(m-h).toNat+a'*2^(m-h').toNat):=by
 refine((z.mul (Uh (m-h).toNat)).add (z'.mul (Uh (m-h').toNat))).mono ?_;omega
structure Vb (K:U0) (n:Nat) (vs:List V) (H:Hp) (p q:Y0) (a b c d h a' b' c' d' h':Int):Prop where
 vs:vs=[.ref p,.ref q]
 one:Ce K H p ((a,b,c,d),h)
 other:Ce K H q ((a',b',c',d'),h')
 h0:0<=h
 h0':0<=h'
 hh:h+h'<=40000
 hn:n<=500000
 z:Gw n a b c d
 z':Gw n a' b' c' d'
def PJ (K:U0):Sp:=λvs H Q _=>∃n p q a b c d h a' b' c' d' h',Vb K n vs H p q a b c d h a' b' c' d' h'/\∀(r:Y0) (H':Hp) (x y z u g:Int),Same H H'->H' r=some (T5 x y z u g)->Sum a b c d h a' b' c' d' h' x y z u g->Gw (n+h.toNat+h'.toNat+2) x y z u->Q (.ref r) H'
def Wj (K:U0):Sp:=λvs H Q _=>∃n p q a b c d h a' b' c' d' h',Vb K n vs H p q a b c d h a' b' c' d' h'/\∀(r:Y0) (H':Hp) (x y z u g:Int),Same H H'->H' r=some (T5 x y z u g)->Sum a b c d h (-a') (-b') (-c') (-d') h' x y z u g->Gw (n+h.toNat+h'.toNat+2) x y z u->Q (.ref r) H'
theorem X2w(F:Aa K "plus" (top 22) .none)(X:K.In h)(G:Ng h mg)(B:Bs mg)(c8:Ag P w K mg base k "halved_out" ["a","b","c","d","h"] EY):Ag P w K mg base (k+1) "plus" ["one","other"] (PJ K):=by
 refine F.cal X G ["one","other","h","up","other_up","sums"] λt H vs Q E hr h=>?_;obtain⟨n,p,q,a,b,c,d,h,a',b',c',d',h',⟨rfl,e1,e2,I,e,hh,hn,z,f⟩,Y⟩:=h;have S:Ah K H p [.int a,.int b,.int c,.int d,.int h]:=e1;have M:Ah K H q [.int a',.int b',.int c',.int d',.int h']:=e2
 refine⟨_,(@Ak _ _ _ _ _ (@Bd _ _ 2 _ _ _ _ t rfl (Or.inl rfl) (Cm (Y6l rfl) rfl B.max boot_max (Ab (Al Az (pv 0) Ad (λ_ _=>rfl)) (Ab (Al Az (pv 1) Ad (λ_ _=>rfl)) Ae))) rfl (.inl rfl))
  (@Ak _ _ _ _ _ (@Bd _ _ 3 _ _ _ _ t rfl (Or.inr rfl) (Aq G5 (pv 2) (Al Az (pv 0) Ad (λ_ _=>rfl))) rfl (.inl rfl))
  (@Ak _ _ _ _ _ (@Bd _ _ 4 _ _ _ _ t rfl (Or.inr rfl) (Aq G5 (pv 2) (Al Az (pv 1) Ad (λ_ _=>rfl))) rfl (.inl rfl))
  (@Ak _ _ _ _ _ (Wg (i:=5) rfl t rfl rfl (BZ.of (Nc:=["x","y","up","other_up"]) (mp:=[none,none,some 3,some 4]) (by kernel_rfl)) (XQ true true rfl B.zip (Ab (J5 Ug (pv 0) Le (Jk Ad)) (Ab (J5 Ug (pv 1) Le (Jk Ad)) Ae))) (λ_ _ _ _=>(Qd rfl (show (["x","y","up","other_up"]:W0).Nodup by decide +kernel) rfl rfl rfl rfl)) (λ_ _ _ _=>(Aq Gu (Aq K3 (pv 0) (pv 2)) (Aq K3 (pv 1) (pv 3)))) rfl)
  (@Aj _ _ _ (Ay (Av c8 hr rfl (Ab (Al DK (pv 5) Ad (λ_ _=>rfl)) (Ab (Al DK (pv 5) Ad (λ_ _=>rfl)) (Ab (Al DK (pv 5) Ad (λ_ _=>rfl)) (Ab (Al DK (pv 5) Ad (λ_ _=>rfl)) (Ab (pv 2) Ae)))))))))))),?_⟩
 try dsimp only[Bg]
 refine⟨_,U,p,_,_,_,U,U,S,U,_,U,q,_,_,_,U,U,M,U,_,_,U,?_⟩;generalize hm:(if h'>h then h' else h)=m;have J:h<=m:=by rw[<-hm];split<;>omega
 have D:h'<=m:=by rw[<-hm];split<;>omega
 have O:m-h<=h'/\m-h'<=h/\m<=h+h':=by rw[<-hm];split<;>omega
 refine⟨_,U,_,U,p,_,_,_,U,U,S,U,_,_,U,U,?_⟩;refine⟨_,U,_,U,q,_,_,_,U,U,M,U,_,_,U,U,?_⟩;refine⟨_,U,4,U,p,_,U,S,Jf,λl1 l=>?_⟩;refine⟨_,U,4,U,q,_,U,(Ax l _).tup M,Jf,λl2 j=>?_⟩;have s2:Same H (upd (upd H l1 (.tup ([a,b,c,d].map V.int))) l2 (.tup ([a',b',c',d'].map V.int))):=(Ax l _).trans (Ax j _);refine⟨l1,l2,[a,b,c,d].map V.int,[a',b',c',d'].map V.int,U,(Ax j _).tup (Ah.of Ao),Ah.of Ao,λacc o=>?_⟩;refine sW (K:=K) (ns:=[a,b,c,d]) (ms:=[a',b',c',d']) (fr:=[some (.int (m-h)),some (.int (m-h'))]) (λx y=>x*2^(m-h).toNat+y*2^(m-h').toNat) rfl (show 4<=sizeLine by decide) ((Ax j _).tup (Ah.of Ao)) (Ah.of Ao) o
  (λha Z=>⟨_,_,U,Ah.of ha,U,_,_,U,_,_,U,U,Z⟩) ?_ ?_
 ·intro x y H2 N R T kN;have zx:Sz n x:=by
   simp only[Cy,Ei,Eh]at R;rcases R with rfl | rfl | rfl | rfl
   ·exact z.z1
   ·exact z.z2
   ·exact z.z3
   ·exact z.z4
  have zy:Sz n y:=by
   simp only[Cy,Ei,Eh]at T;rcases T with rfl | rfl | rfl | rfl
   ·exact f.z1
   ·exact f.z2
   ·exact f.z3
   ·exact f.z4
  exact⟨_,U,_,U,_,_,U,U,⟨n,zx,(by omega),(by omega)⟩,_,U,_,U,_,_,U,U,⟨n,zy,(by omega),(by omega)⟩,_,_,U,U,kN⟩
 intro H2 s3 a3;have C:Af K H2 acc ((List.zipWith (λx y=>x*2^(m-h).toNat+y*2^(m-h').toNat) [a,b,c,d] [a',b',c',d']).map V.int):=Af.of a3;refine⟨_,U,acc,_,_,_,U,U,C,U,_,U,acc,_,_,_,U,U,C,U,_,U,acc,_,_,_,U,U,C,U,_,U,acc,_,_,_,U,U,C,U,_,U,_,_,_,_,_,U,(by show 0<=m;omega),λr H' x y v u g s4 W s=>?_⟩;have A:n+h.toNat+h'.toNat+2<=n+h.toNat+h'.toNat+2:=Bj _;have L:m-h<=h'/\m-h'<=h:=⟨O.1,O.2.1⟩;refine Y r H' x y v u g (s2.trans (s3.trans s4)) W ⟨s.amt,CG.trans ⟨XS I e J D,XS I e J D,XS I e J D,XS I e J D⟩ s.same,by have:=s.le;rw[<-hm]at this;split at this<;>omega⟩ (s.sz ⟨?_,?_,?_,?_⟩)
 ·exact Xa L z.z1 f.z1 A
 ·exact Xa L z.z2 f.z2 A
 ·exact Xa L z.z3 f.z3 A
 ·exact Xa L z.z4 f.z4 A
theorem Y8i(F:Aa K "minus" (top 23) .none)(X:K.In h)(G:Ng h mg)(cK:Ag P w K mg base k "plus" ["one","other"] (PJ K))(cX:Ag P w K mg base k "spun" ["one","k"] (QZ K)):Ag P w K mg base (k+1) "minus" ["one","other"] (Wj K):=by
 refine F.cal X G ["one","other"] λL H vs Q E j h=>?_;obtain⟨n,p,q,a,b,c,d,h,a',b',c',d',h',⟨rfl,B,s,D,f,t,I,z,e⟩,m⟩:=h;refine⟨_,(@Aj _ _ _ (Ay (Av cK j rfl (Ab (pv 0) (Ab (Av cX j rfl (Ab (pv 1) (Ab Ad Ae))) Ae))))),?_⟩;try dsimp only[Bg]
 refine⟨_,U,_,U,q,_,_,_,_,_,_,U,s,λr H2 l J=>?_⟩;have i:Ce K H2 r ((-a',-b',-c',-d'),h'):=J;exact⟨n,p,r,a,b,c,d,h,-a',-b',-c',-d',h',⟨U,B.same l,i,D,f,t,I,z,⟨e.z1.neg,e.z2.neg,e.z3.neg,e.z4.neg⟩⟩,λA o x y v u g C=>m A o x y v u g (l.trans C)⟩
end
end Ai
namespace L2
def Mt (P:Params)(e:DictEntry)(p:Str×Int):Prop:=∃t u,e=⟨PyData.keyHash P p.1,.str p.1 t,.int p.2 u⟩
structure Jx (K:U0) (P:Params) (a:Y0) (kvs:List (Str×Int)):Prop where
 ex:∃o es ep,K.lookup a=some o/\o.ExactDict/\o.data=.dict es ep/\Paired (Mt P) es.toList kvs
 nd:(kvs.map (·.1)).Nodup
 ns:(a == sysModules)=false
noncomputable def txt (p:Str×Int):Key×V:=(Sum.inr p.1,.int p.2)
theorem Jx.at{K:U0}{prog:U8}{w:W1}{a:Y0}{kvs:List (Str×Int)}{h:Heap}(D:Jx K w.params a kvs)(X:K.In h):∃vs,KV (kvs.map txt) vs/\h.DictOf (Nv prog w) a vs:=by
 obtain⟨o,es,ep,m,j,g,hp⟩:=D.ex;have f:∀{l:List DictEntry}{kvs:List (Str×Int)},Paired (Mt w.params) l kvs->∃vs:List (Key×Value),KV (kvs.map txt) vs/\Pairs (Nv prog w) l vs:=by
  intro l kvs h;induction h with
  | nil=>exact⟨[],.nil,.nil⟩
  | @cons e p l kvs b hr ih =>
   obtain⟨vs,c,d⟩:=ih;obtain⟨t,u,rfl⟩:=b;exact⟨(Sum.inr p.1,.int p.2 u)::vs,.cons ⟨U,u,U⟩ c,.cons (lR p.1 t) rfl d⟩
 have all:∀{l:List DictEntry}{kvs:List (Str×Int)},Paired (Mt w.params) l kvs->∀e∈l,∃p,Mt w.params e p:=by
  intro l kvs h;induction h with
  | nil=>intro e b;cases b
  | @cons e p l kvs b hr ih =>
   intro i h';rcases Cy.mp h' with rfl | h'
   ·exact⟨p,b⟩
   ·exact ih i h'
 obtain⟨vs,c,d⟩:=f hp;refine⟨vs,c,o,es,ep,X _ _ m,j,g,?_,d,?_⟩
 ·intro e b;obtain⟨p,t,u,rfl⟩:=all hp e (Array.mem_toList_iff.mpr b);exact⟨Sum.inr p.1,lR p.1 t,U⟩
 ·rw[<-c.keys,Jq];have e:kvs.map ((λk=>k.1) ∘ txt)=(kvs.map (·.1)).map (Sum.inr:Str->Key):=by rw[Jq];rfl
  rw[e];exact List.pairwise_map.mpr (D.nd.imp λh z=>h (Sum.inr.inj z))
noncomputable def numAt (kvs:List (Str×Int))(x:Str):Option V:=G9 (kvs.map txt) (Sum.inr x)
def X1o (kvs:List (Str×Int))(ty:TE):TE:=λσ H Q=>ty σ H λy H1=>∃x,y=.str x/\Q (.bl (!(numAt kvs x).isSome)) H1
def RB (kvs:List (Str×Int))(ty:TE):TE:=λσ H Q=>ty σ H λy H1=>∃x v,y=.str x/\numAt kvs x=some v/\Q v H1
section
variable {X:Cx}{o i:Expr}{pos:Pos}{ty:TE}{aN:Y0}{kvs:List (Str×Int)}
theorem Y4a(D:Jx X.K X.w.params aN kvs)(hi:PE X i ty)(ho:PE X o (tC (.ref aN))):PC X .NotIn i o (X1o kvs ty):=by
 intro pins s σ H Q I h;refine BW (hi pins s σ H _ I h) λn f ⟨y,H1,c,e,x,j,d⟩=>BW (ho pins f σ H1 (λv H2=>v=.ref aN/\H2=H1) c ⟨U,U⟩) λu m ⟨v,H2,b,l,ev,g⟩=>?_;subst ev g j;cases l;obtain⟨vs,a,dd⟩:=D.at (prog:=X.prog) (w:=X.w) b.kIn;refine wpAny_notIn_of (vC (k:=Sum.inr x) e) D.ns dd.mapOf ?_;rw[<-(a.val (Sum.inr x)).isSome_eq];exact⟨.bl _,H2,b.tok _,U,d⟩
theorem X2d(D:Jx X.K X.w.params aN kvs)(ho:PE X o (tC (.ref aN)))(hi:PE X i ty)(hs:VP i):PE X (.Subscript o i pos) (RB kvs ty):=by
 intro pins s σ H Q I h;refine X1q PySem.F.slot_dict_getitem.lookup hs (BW (ho pins s σ H (λv H2=>v=.ref aN/\H2=H) I ⟨U,U⟩) λu l ⟨v,H1,d,q,ev,m⟩=>?_);subst ev m;cases q;refine BW (hi pins l σ H1 _ d h) λt r ⟨y,H2,b,f,x,c,n,g,e⟩=>?_;subst n;obtain⟨vs,a,dd⟩:=D.at (prog:=X.prog) (w:=X.w) b.kIn;obtain⟨u,j,p⟩:=D_.some_of (v:=c) (o:=valueAt vs (Sum.inr x)) (by rw[<-g];exact a.val (Sum.inr x));exact⟨dd.typeIs,wpAny_getItem_of (vC (k:=Sum.inr x) f) dd.mapOf j ⟨c,H2,b.tok _,p,e⟩⟩
end
end L2
namespace L2
noncomputable abbrev unlike (ns:U6):Nat:=(firstMet (λi=>ns.getD i 0) ns.length).length
noncomputable abbrev fresh0 (led:Bool):Obj:={ cls:=.type "set",dict:=none,data:=.set #[] 0 (.fresh 0 0 led)}
def Gx (prog:U8)(w:W1)(s:U7)(ns:U6)(S:Int->Bool)(s':U7):Prop :=
 ∃h' tk,s'={s with heap:=h',toks:=tk}/\h'.SetOf (intKind prog w) s.heap.objs.size S (unlike ns)/\∀b o,s.heap.get? b=some o->h'.get? b=some o
section
variable {prog:U8}{w:W1}{A:W7}{E:U2}{s:U7}{p:Y0}{its:U9}{ns:U6}
theorem _E(hh:A.handled=none)(ht:s.heap.IsTuple p its)(hi:IntsAre its.toList ns)(hb:ns.length+1<scanBound)(led:Bool){R:Result->Shared->Prop}
  (h:∀s',Gx prog w s ns (λk=>(firstMet (λi=>ns.getD i 0) ns.length).any (· == k)) s'->R (.ok (.ret .none)) s'):
  codeAny (model prog w) A (.builtin "set.update.loop" ⟨[.ref s.heap.objs.size,.ref (s.heap.push (fresh0 led)).objs.size],[]⟩) R {s with heap:=(s.heap.push (fresh0 led)).push { cls:=.type "tuple_iterator",data:=.fields #[.ref p,.int 0 0]}}:=by
 obtain⟨o,j,u,n,t⟩:=id ht;have lt:p<s.heap.objs.size:=Bv j;have f:(s.heap.push (fresh0 led)).objs.size=s.heap.objs.size+1:=Ij ..;have m:its.size=ns.length:=by rw[<-Vx];exact hi.length
 have W:=(Walks.tuple (prog:=prog) (w:=w) (A:=A.in1) (by simp[hh]) (s.heap.push (fresh0 led)).objs.size p (by rw[f];exact Cw (Py lt)) its).toS;have t1:(s.heap.push (fresh0 led)).IsTuple p its:=⟨o,Df _ j,u,n,t⟩;refine codeAny_set_update_loopS W s.heap.objs.size (by rw[f];simp only[Cy,Ei,Eh,not_or];exact⟨Cw (Px _),Lr lt⟩) (λi=>ns.getD i 0) (λi v q=>hi.int_at i v (by rw[Array.getElem?_toList];exact q)) (by rw[m];exact hb) its.size 0 _ rfl (Dz _)
  ⟨⟨_,Ej _ rfl,U,U⟩,t1.push _⟩ ?_ ?_
 ·have g:((s.heap.push (fresh0 led)).push { cls:=.type "tuple_iterator",data:=.fields #[.ref p,.int 0 0]}).get? s.heap.objs.size=some (fresh0 led):=Df _ (Ej _ rfl);exact SetOf_congr ((setObjOf_fresh (knd:=intKind prog w) led).setOf g (by unfold scanBound;omega)) (λ_=>rfl) rfl
 ·intro s' a l;rw[m]at l;obtain⟨h',g',d',d,c⟩:=s';obtain rfl:g'=s.gens:=a.gens;obtain rfl:d'=s.drawn:=a.drawn;obtain rfl:c=s.os:=a.os;refine h _ ⟨h',d,U,l,λb o e=>?_⟩;have r:=Bv e;exact a.heap b o (by rw[f];simp only[Cy,Ei,Eh,not_or];exact⟨Cw r,Cw (Py r)⟩) (Df _ (Df _ e))
theorem _L(hh:A.handled=none)(ht:s.heap.IsTuple p its)(hi:IntsAre its.toList ns)(hb:ns.length+1<scanBound)(led:Bool){R:U2}
  (h:∀s',Gx prog w s ns (λk=>(firstMet (λi=>ns.getD i 0) ns.length).any (· == k)) s'->R .none s'):
  codeAny (model prog w) A (.call (.builtin "set.__init__") ⟨[.ref s.heap.objs.size,.ref p],[]⟩) (wants R E) {s with heap:=s.heap.push (fresh0 led)}:=by
 have ty:Shared.TypeIs {s with heap:=s.heap.push (fresh0 led)} (.ref s.heap.objs.size) "set":=⟨_,Ej _ rfl,U⟩;obtain⟨o,l,j,n,f⟩:=id ht;obtain⟨g,b,c,a⟩:=o;simp only at j f;subst j f;have d:(s.heap.push (fresh0 led)).get? p=some { cls:=.type "tuple",dict:=b,data:=.seq its n,slots:=a}:=Df _ l;have t1:(s.heap.push (fresh0 led)).IsTuple p its:=⟨_,d,U,n,U⟩;have q:=F.sub_tuple_set;have m:=F.sub_tuple_frozenset;have r:(Value.type "tuple" == Value.type "dict")=false:=by decide
 refine Ys F.called_set.init.plain F.entry_set_init (check_set_init_1 ty ?_);unfold Builtin.«set.__init__» noKeywords Builtin.Frozenset.updateFrom;generalize hP:pyIter=PI;wp_walk;subst hP;refine Yn t1 (Bm (wpAny_runValue (_E (by simp[hh]) ht hi hb led λs' e=>?_)));exact CW (CW (h _ e))
theorem X1t(hh:A.handled=none)(ht:s.heap.IsTuple p its)(hi:IntsAre its.toList ns)(hb:ns.length+1<scanBound){Q:U2}
  (h:∀s',Gx prog w s ns (λk=>(firstMet (λi=>ns.getD i 0) ns.length).any (· == k)) s'->Q (.ref s.heap.objs.size) s'):wpAny (model prog w) A (call (.type "set") [.ref p]) Q E s:=by
 obtain⟨c,tl,j⟩:=F.called_set.mro;have t:=F.called_set.made;have q:=F.called_set.sub;have m:=F.called_set.notType;have x:=F.called_set.canCreate;have o:=F.typeCall_set_1 (.ref p);refine Ve (codeAny_of_tree ?_);show wpAny _ _ (callAny (.type "set") _) _ _ _;refine CW ⟨Code.quiet_builtin _ (by decide +kernel),codeAny_builtin F.entry_type_call ?_⟩;rw[Around.under_plain (oU "set" [.ref p] []) rfl];repeat any_goals first | assumption | wp_step
 refine M9 (code_set_new_1 (.ref p) (E:=E) (Q₁:=λg f=>∃a:Bool,g=.ref s.heap.objs.size/\f={s with heap:=s.heap.push (fresh0 a)}) λa=>⟨a,U,U⟩) λr f d=>?_;rcases r with e | fl
 ·exact d
 cases fl with
 | ret g =>
  obtain⟨a,rfl,rfl⟩:=d;have ty:Shared.TypeIs {s with heap:=s.heap.push (fresh0 a)} (.ref s.heap.objs.size) "set":=⟨_,Ej _ rfl,U⟩;have u:=F.called_set.init.lookup;have v:=F.called_set.init.bind (.ref s.heap.objs.size);repeat any_goals first | assumption | wp_step
  refine M9 (_L (E:=E) (R:=λr s'=>r=.none/\Gx prog w s ns (λk=>(firstMet (λi=>ns.getD i 0) ns.length).any (· == k)) s') (by simp[hh]) ht hi hb a λs' e=>⟨U,e⟩) λl n b=>?_;rcases l with e | fl₂
  ·exact b
  cases fl₂ with
  | ret r =>
   obtain⟨rfl,e⟩:=b;repeat any_goals first | assumption | wp_step
   exact h _ e
  | next=>exact b.elim
  | brk=>exact b.elim
  | cont=>exact b.elim
 | next=>exact d.elim
 | brk=>exact d.elim
 | cont=>exact d.elim
end
theorem qH:∀{ns:U6}{us:U5},Vals (ns.map V.int) us->IntsAre us ns
 | [],_,.nil=>.nil
 | n::ns,_,.cons r rs=>by
  obtain⟨t,rfl⟩:=r;exact .cons n t (qH rs)
section
variable {X:Cx}
theorem Y6j(hc:X.calm=true):CJ X (.type "set") (λxs H Q=>∃(p:Y0) (ns:U6),xs=[.ref p]/\Ah X.K H p (ns.map V.int)/\ns.length<64/\∀(l:Y0) (S:Int->Bool),H l=none->Q (.ref l) (upd H l (.set S (unlike ns)))):=by
 intro pins s σ H xs us Q I r h;obtain⟨p,ns,rfl,i,d,q⟩:=h;obtain⟨u,rfl,g⟩:=vals1 r;cases g;obtain⟨its,k,b,_⟩:=I.tuple i;obtain⟨o,f,a,n,hd⟩:=b;refine X1t (I.ok.hd hc) ⟨o,f,a,n,hd⟩ (ns:=ns) (qH (by simpa using k)) (by unfold scanBound;omega) λs' ⟨h',tk,e,j,c⟩=>?_;subst e;exact⟨.ref s.heap.objs.size,_,I.laid (o:=.set _ (unlike ns)) (t':=tk) c (Bj _) j,U,q _ _ (I.hok.fresh (Bj _))⟩
theorem Y6m:CJ X (.builtin "len") (λxs H Q=>∃(p:Y0) (S:Int->Bool) (n:Nat),xs=[.ref p]/\H p=some (.set S n)/\n<64/\Q (.int n) H):=by
 intro pins s σ H xs us Q I r h;obtain⟨p,S,n,rfl,hp,e,q⟩:=h;obtain⟨u,rfl,g⟩:=vals1 r;cases g;have i:s.heap.SetOf (intKind X.prog X.w) p S n:=I.hok p _ hp;obtain⟨o,f,b⟩:=i.objOf;obtain⟨a,es,ep,t,c,_,_,j,d⟩:=b;subst j;exact call_len_set f a c d (by omega) ⟨.int es.size,H,(I.tok _).tok _,⟨_,U⟩,q⟩
end
end L2
namespace L2
section
variable {X:Cx}{e st:Expr}{lo hi:Option Expr}{te:TE}{tl th ts:TO}{p2 pos:Pos}
end
end L2
namespace HT
section
variable {prog:U8}{w:W1}{A:W7}{E:U2}{s:U7}
theorem zZ{t sl:Y0}{items:U9}{vl vu:W2}{lo hi:Option Int}{Q:U2}(ht:IsTup s.heap t items)(hs:s.heap.IsSliceOf sl vl vu .none)(pl:IsPart vl lo)(pu:IsPart vu hi)
  (h1:Bp items.size 0 lo=0) (h2:Bp items.size items.size hi=items.size) (h:Q (.ref t) s):wpAny (model prog w) A (getItem (.ref t) (.ref sl)) Q E s:=by
 obtain⟨os,a,b,c⟩:=id hs;have ty:s.TypeIs (.ref sl) "slice":=⟨os,a,b⟩;unfold getItem;try with_reducible refine Vm ?_
 first | refine Bm (CW ?_) | skip
 refine Bm (wpAny_sequenceKey ht.typeIs (by decide) (Bm (Y6 (name:=Str.ofString "__getitem__") ht.typeIs PyProof.Rows.slot_tuple_getitem (Yg PyProof.Rows.slot_tuple_getitem ht.typeIs entry_tuple_getitem ?_ (args_tuple_getitem _ _)))));show wpAny _ _ (Builtin.Tuple.tupleItemsOf (.ref t) >>= _) _ _ s;refine Bm (tupleItemsOf_ ht (Bm (YH ty ?_)));rw[if_pos (by decide)];refine Bm (qy hs pl pu ?_);show wpAny _ _ (if (((Bp items.size 0 lo:Nat):Int) == 0 && (1:Int) == 1 && (Bp items.size items.size hi-Bp items.size 0 lo) == items.size)=true then _ else _) _ _ s;rw[if_pos (by rw[h1,h2];simp)];refine Bm ?_;unfold Builtin.Tuple.tupleIsExact;refine Bm (YH ht.typeIs (CW ?_));rw[if_pos (by decide)];exact Bm (wpAny_rule (CW ⟨_,U,CW h⟩))
end
end HT
namespace L2
section
variable {X:Cx}
def X7 (K:U0):V->Option Int->Option Int->Hp->VK->Prop:=λx lo hi H Q=>∃a xs,x=.ref a/\Ah K H a xs /\
 ((HT.Bp xs.length 0 lo=0/\HT.Bp xs.length xs.length hi=xs.length)/\Q (.ref a) H\/¬ (HT.Bp xs.length 0 lo=0/\HT.Bp xs.length xs.length hi=xs.length)/\∀p,H p=none->Q (.ref p) (upd H p (.tup (Du xs lo hi))))
theorem kE:VJ X (X7 X.K):=by
 intro pins s σ H x v j k lo hi l Q I e g pl i h;obtain⟨a,xs,rfl,f,⟨c,q⟩ | ⟨c,q⟩⟩:=h
 ·cases e;obtain⟨its,r,d,m⟩:=I.tuple f;have b:=r.length;refine⟨"tuple",_,slot_tuple_getitem.lookup,d.typeIs,HT.zZ d g pl i (by rw[Eb,<-b];exact c.1) (by rw[Eb,<-b];exact c.2) ⟨.ref a,H,I,U,q⟩⟩
 ·exact Ug pins s σ H _ v j k lo hi l Q I e g pl i ⟨a,xs,U,f,c,q⟩
end
end L2
namespace L2
theorem Y2v{prog:U8}{w:W1}{A:W7}{env:Env}{c:Expr}{s:U7}{Q:Bool->Shared->Prop}(h:wpAny (model prog w) A (isTrue c env (eval c env)) Q Calm s):
  wpAny (model prog w) A (forIn [c] true λc r=>if r=true then do let ok ← isTrue c env (eval c env);pure (ForInStep.yield ok) else pure (ForInStep.yield r)) Q Calm s:=wpAny_tests_one h
theorem zW{prog:U8}{w:W1}{A:W7}{R:Result->Shared->Prop}{s:U7}{e t i c:Expr}{sc:Scope}{pos:Pos}{it acc:W2}{env:Env}(J:Nat->Shared->Prop)
  (turn:∀n s,J n s->wpAny (model prog w) A (pyNext it) (λr b=>(r=none->R (.ok .next) b)/\∀v,r=some v ->
   wpAny (model prog w) A (letOwnedTupleGo t it v) (λ_ f=>wpAny (model prog w) A (assign t env v) (λ_ g=>wpAny (model prog w) A (isTrue c env (eval c env)) (λok a=>if ok=true then wpAny (model prog w) A (eval e env) (λx k =>
    wpAny (model prog w) A (call (.builtin "list.append") [acc,x]) (λ_ d=>∃m,m<n/\J m d) Calm k) Calm a else ∃m,m<n/\J m a) Calm g) Calm f) Calm b) Calm s)
  (n:Nat) (h:J n s):codeAny (model prog w) A (.compLoop (.ListComp e [⟨t,i,[c],0⟩] sc pos) 0 it acc env) R s:=by
 have z:=compTurn_list e t i [c] sc pos it acc env;refine codeAny_loop rfl J (λn s j=>wpAny_noted (m:=compTurn (.ListComp e [⟨t,i,[c],0⟩] sc pos) 0 it acc env) ?_) n h;rw[z];refine Bm (Pk (DY (turn n s j) λr b q=>?_));match r,q with
 | none,q=>exact CW (q.1 rfl)
 | some v,q =>
  refine DY (q.2 v rfl) λ_ f o=>DY o λ_ g p=>DY (Y2v p) λok k l=>?_;cases ok with
  | false=>exact CW ⟨rfl,l⟩
  | true=>exact Bm (DY l λx d y=>DY y λ_ B u=>CW (CW ⟨rfl,u⟩))
def K6 (J:It)(g:TG)(tc:TT)(te:TE)(σ:St)(H:Hp)(acc:Y0)(Q:VK):Prop:=∃W:Nat->Nat->List V->St->Hp->Prop,(∃m,W 0 m [] σ (upd H acc (.lst []))) /\
 ∀i m ys σ2 H2,W i m ys σ2 H2->(J.stop i H2/\Q (.ref acc) H2)\/(J.go i H2/\∀x H3,J.yld i H2 x H3->g x σ2 H3 λσ4 H4=>tc σ4 H4 λb H5 =>
  (b=true->te σ4 H5 λy H6=>H6 acc=some (.lst ys)/\ys.length<sizeLine/\∃m',m'<m/\W (i+1) m' (ys++[y]) σ4 (upd H6 acc (.lst (ys++[y]))))/\(b=false->∃m',m'<m/\W (i+1) m' ys σ4 H5))
def Q_ (mp:W8)(wi:TI)(g:TG)(tc:TT)(te:TE):TE:=λσ H Q=>wi σ H λJ H1=>∀acc,H1 acc=none->K6 J g tc te (sub mp σ) H1 acc Q
section
variable {X:Cx}{elt tg iter cond:Expr}{scope:Scope}{pos:Pos}{wi:TI}{g:TG}{tc:TT}{te:TE}{Nc:W0}{mp:W8}
theorem sO(hc:X.calm=true)(S:BZ X.N X.env.scope scope Nc mp)(hg:∀ex pins s H,PG (Aw X scope Nc ex pins s H) tg g)(ht:∀ex pins s H,PT (Aw X scope Nc ex pins s H) cond tc)(he:∀ex pins s H,PE (Aw X scope Nc ex pins s H) elt te)
  {pins:U1}{σ:St}{H2:Hp}{s2:U7}{E:U2}{it:Y0}{fp:U3}{tn:Nat->Heap->Prop}{J:It}{Q:VK}{RR:Value->Addr->Result->Shared->Prop}
  (I2:Inv X pins σ H2 s2) (T:Turn X.prog X.w X.K tg J fp it tn) (st2:tn 0 s2.heap) (f2:∀b∈fp,Dj X pins H2 b)
  (q:∀acc,H2 acc=none->K6 J g tc te (sub mp σ) H2 acc Q)
  (fin:∀acc C H' s' m',Q (.ref acc) H'->Inv X pins σ H' s'->s'.heap.Ns C m'->H' C=none->X.s₀.heap.objs.size<=C->C≠X.env.locals->(∀x c,X.env.cells.lookup x=some c->c≠C)->(∀p∈X.pn++pins,p.1≠C)->RR (.ref acc) C (.ok .next) s'):
  wpAny (model X.prog X.w) X.A (newList []) (λacc s₃=>wpAny (model X.prog X.w) X.A (newFunctionEnv scope X.env.globals (clo scope.names X.env.cells) [] X.env.qual none .none (some X.env)) (λB s₄ =>
   codeAny (model X.prog X.w) X.A (.compStart (.ListComp elt [⟨tg,iter,[cond],0⟩] scope pos) 0 (.ref it) acc {B with scope:=relabel scope X.env}) (RR acc B.locals) s₄) E s₃) E s2:=by
 refine P0 (wpAny_newFunctionEnv S.nocell (by intro y hy;simp at hy) (λh₁ m t=>?_) S.kind);dsimp only at m t ⊢;have I3:=I2.lnew (its:=[]) (ys:=[]) (t':=s2.toks) .nil (Dz _);have V:H2 s2.heap.objs.size=none:=I2.fresh;obtain⟨W,⟨m0,w0⟩,Z⟩:=q s2.heap.objs.size V;have G:(s2.heap.push { cls:=.type "list",dict:=none,data:=.seq ([]:U5).toArray}).objs.size=s2.heap.objs.size+1:=Ij ..;have R:∀b∈fp,b<s2.heap.objs.size:=λb hb=>by
  obtain⟨o,e,_⟩:=T.obj _ _ st2 b hb;exact Bv e
 have D:∀b∈fp,Dj X pins (upd H2 s2.heap.objs.size (.lst [])) b:=λb hb=>⟨by rw[CK (Cw (R b hb))];exact(f2 b hb).1,(f2 b hb).2⟩;have h:Inv X pins σ (upd H2 s2.heap.objs.size (.lst [])) (DX s2):=I3;have a8:(DX s2).heap.objs.size=s2.heap.objs.size+1:=G;have k:∀b∈fp,b<(DX s2).heap.objs.size:=λb hb=>by rw[a8];exact Py (R b hb)
 have k3:∀b o,(DX s2).heap.get? b=some o->h₁.get? b=some o:=λb o e=>t.extBut b o (Cw (Bv e)) (Df _ e);have Ic:=uW (tk:=(DX s2).toks) h S D k m k3;have O:tn 0 h₁:=T.keep _ _ _ st2 λb hb o e=>k3 b o (Df _ e);have cC:X.s₀.heap.objs.size<=(DX s2).heap.objs.size:=h.sz;have cL:(DX s2).heap.objs.size≠X.env.locals:=Lr h.lt;have cc:∀x c,X.env.cells.lookup x=some c->c≠(DX s2).heap.objs.size:=λx c e=>by
  obtain⟨v,o,ho,_⟩:=h.cell x c e;exact Cw (Bv ho)
 have cp:∀p∈X.pn++pins,p.1≠(DX s2).heap.objs.size:=λp hp=>Cw (Bv (h.pin p hp).1);have j:∀{H':Hp},(∀b∈fp,H' b=none)->∀b∈fp,Dj (Aw X scope Nc fp pins (DX s2) (upd H2 s2.heap.objs.size (.lst []))) [] H' b:=λhn b hb =>
  ⟨hn b hb,Cw (k b hb),λz=>by
   rcases Cy.mp (h.stkSub b z) with e | e
   ·exact(D b hb).2.1 e
   ·exact(D b hb).2.2.1 e,.inl hb,λx c e=>(D b hb).2.2.2.2.1 x c (Nq h S e),λp hp=>(D b hb).2.2.2.2.2 p (by
    have:p∈(X.pn++pins)++[]:=hp
    simpa using this)⟩
 have l:∀s4:Shared,s4={ (DX s2) with heap:=h₁,toks:=(DX s2).toks} ->
   codeAny (model X.prog X.w) X.A (.compLoop (.ListComp elt [⟨tg,iter,[cond],0⟩] scope pos) 0 (.ref it) (.ref s2.heap.objs.size) (Aw X scope Nc fp pins (DX s2) (upd H2 s2.heap.objs.size (.lst []))).env)
    (RR (.ref s2.heap.objs.size) (DX s2).heap.objs.size) s4:=by
  rintro s4 rfl;refine zW (λn s'=>∃i ys σ' H',Inv (Aw X scope Nc fp pins (DX s2) (upd H2 s2.heap.objs.size (.lst []))) [] σ' H' s'/\tn i s'.heap/\(∀b∈fp,H' b=none)/\W i n ys σ' H') ?_ m0
   ⟨0,[],sub mp σ,_,Ic,O,λb hb=>(D b hb).1,w0⟩
  rintro n s5 ⟨i,ys,σ5,H5,I5,Y,a0,w5⟩;rcases Z i n ys σ5 H5 w5 with ⟨stop,qn⟩ | ⟨go,step⟩
  ·refine Ep (T.done (Aw X scope Nc fp pins (DX s2) (upd H2 s2.heap.objs.size (.lst []))) rfl rfl rfl hc i [] s5 σ5 H5 (λ_ _=>False) I5 (j a0) Y stop) (λr s6 ⟨hr,I6⟩=>?_) λ_ _ f=>f.elim;subst hr;obtain⟨m6,a7,_⟩:=I6.loc;refine⟨λ_=>?_,λ_ z=>nomatch z⟩;exact fin _ _ H5 s6 m6 qn (wU h D I6) a7 I6.free cC cL cc cp
  ·refine Ep (T.item (Aw X scope Nc fp pins (DX s2) (upd H2 s2.heap.objs.size (.lst []))) rfl rfl rfl hc i [] s5 σ5 H5 (λ_ _=>False) I5 (j a0) Y go) (λr s6 ⟨u,hr,h6⟩=>?_) λ_ _ f=>f.elim;subst hr;refine⟨(λz=>by cases z),?_⟩;rintro _ ⟨⟩;refine Ep h6 (λ_ s7 ⟨x,H7,I7,r7,y7,F,a9⟩=>?_) λ_ _ f=>f.elim;have a3:=I7.pinned (j a9) (T.obj _ _ F);refine Ep (hg _ _ _ _ _ s7 σ5 H7 x u _ a3 r7 (step x H7 y7)) (λ_ s8 ⟨M,H8,I8,q8⟩=>?_) λ_ _ f=>f.elim;refine Ep (ht _ _ _ _ _ s8 M H8 _ I8 q8) (λbb s9 ⟨H9,I9,p9,n9⟩=>?_) λ_ _ f=>f.elim;have a:∀{H':Hp}{s':U7},Inv (Aw X scope Nc fp pins (DX s2) (upd H2 s2.heap.objs.size (.lst []))) ([]++Fd fp s7.heap) M H' s'->tn (i+1) s'.heap/\∀b∈fp,H' b=none:=λ{H' s'} J' =>
    ⟨T.keep _ _ _ F λb hb o e=>(J'.pin (b,o) (Hy _ (Hy _ (Qh hb e)))).1,λb hb=>by
     obtain⟨o,e,d⟩:=T.obj _ _ F b hb
     exact(J'.pin (b,o) (Hy _ (Hy _ (Qh hb e)))).2.1⟩
   cases bb with
   | false =>
    obtain⟨m',L,w9⟩:=n9 rfl;rw[if_neg Ft];exact⟨m',L,i+1,ys,M,H9,I9.unpinned,(a I9).1,(a I9).2,w9⟩
   | true =>
    rw[if_pos rfl];refine Ep (he _ _ _ _ _ s9 M H9 _ I9 (p9 rfl)) (λv a5 ⟨y,P,a4,a6,a2,l10,m',L,b0⟩=>?_) λ_ _ f=>f.elim;refine Ep (Qe (X:=Aw X scope Nc fp pins (DX s2) (upd H2 s2.heap.objs.size (.lst []))) _ a5 M P (.ref s2.heap.objs.size) [y] (.ref s2.heap.objs.size) [v] (λz Hz=>z=.non/\Hz=upd P s2.heap.objs.size (.lst (ys++[y]))) a4 rfl (.cons a6 .nil) ⟨_,ys,y,U,U,a2,l10,U,U⟩) (λb1 b3 ⟨z,b2,I,_,_,a1⟩=>?_) λ_ _ f=>f.elim;subst a1;exact⟨m',L,i+1,ys++[y],M,_,I.unpinned,(a I).1,(a I).2,b0⟩
 exact o8 (l _ rfl) (T.self _ 0 _ _ _ O (l _ rfl))
theorem wu(hc:X.calm=true)(S:BZ X.N X.env.scope scope Nc mp)(hi:PI X tg iter wi)(hg:∀ex pins s H,PG (Aw X scope Nc ex pins s H) tg g)(ht:∀ex pins s H,PT (Aw X scope Nc ex pins s H) cond tc)(he:∀ex pins s H,PE (Aw X scope Nc ex pins s H) elt te)
  (hf:∀x,foldedSetIterable iter X.env x=pure x:=by intro _;rfl):PE X (.ListComp elt [⟨tg,iter,[cond],0⟩] scope pos) (Q_ mp wi g tc te):=by
 intro pins s σ H Q I h;rw[eval_ListComp];refine V6 (use:=none) rfl hf (Wn (Us I S)) S.kind S.names (BW (hi pins s σ H _ I h) λv p h1=>BW h1 λn r h2=>?_);obtain⟨it,fp,t,J,H2,e,m,T,a,f,q⟩:=h2;subst e;refine sO (RR:=λacc C=>compPost (model X.prog X.w) X.A X.xe none (EP X pins σ Q) acc C) hc S hg ht he m T a f q ?_;intro acc C H' s' i qq c j l c1 c2 c3 d;refine⟨i,j,λh' k=>⟨.ref acc,H',?_,U,qq⟩⟩;exact c.turnedNew (t':=s'.toks) (λb o hb e=>k.extBut b o hb e) l c1 c2 c3 d
theorem Y3t{i:Nat}{x:Str}{pos' spos:Pos}(hc:X.calm=true)(hN:X.N.Nodup)(hi':X.N[i]?=some x)(hx:X.env.scope.names.lookup x=some .local)(S:BZ X.N X.env.scope scope Nc mp)(hi:PI X tg iter wi)
  (hg:∀ex pins s H,PG (Aw X scope Nc ex pins s H) tg g) (ht:∀ex pins s H,PT (Aw X scope Nc ex pins s H) cond tc) (he:∀ex pins s H,PE (Aw X scope Nc ex pins s H) elt te)
  (hsw:swapsWith (.ListComp elt [⟨tg,iter,[cond],0⟩] scope pos) (some (.Name x pos')) spos.line X.env=pure true)
  (hf:∀x,foldedSetIterable iter X.env x=pure x:=by intro _;rfl):PS X (.Assign [.Name x pos'] (.ListComp elt [⟨tg,iter,[cond],0⟩] scope pos) spos) (Li (Q_ mp wi g tc te) (Bf i)):=by
 intro pins s σ H D I h;rw[oR _ _ _ _ hsw];refine Bm (Pk (Bm ?_));show wpAny _ X.A (do let _ ← comprehension (.ListComp elt [⟨tg,iter,[cond],0⟩] scope pos) scope X.env _ (newList []) false (eval iter X.env) (some (assign (.Name x pos') X.env))) _ _ s
 refine Bm (Ep (V6 (use:=some (assign (.Name x pos') X.env)) (Q:=λ_ s'=>SP X pins D .next s') rfl hf (Wn (Us I S)) S.kind S.names
  (BW (hi pins s σ H _ I h) λv G h1=>BW h1 λF K h2=>?_)) (λ_ s' n=>CW (CW n)) λ_ _ e=>e)
 obtain⟨it,fp,L,J,H2,e,E,T,d,p,q⟩:=h2;subst e;refine sO (Q:=λx H1=>Bf i x σ H1 D.nx) (RR:=λacc C=>compPost (model X.prog X.w) X.A X.xe (some (assign (.Name x pos') X.env)) (λ_ s'=>SP X pins D .next s') acc C) hc S hg ht he E T d p q ?_;intro acc C H' s' r qq j t y c1 c2 c3 k;show wpAny _ X.A (assign (.Name x pos') X.env (.ref acc)) _ _ _;refine Yj (lY (v:=.ref acc) j hN hi' (.inl hx) rfl (λm B ⟨a,c,l⟩=>?_) (.inr hx));have f:C≠a:=by
  rcases l with z | z
  ·rw[z];exact c2
  ·exact Ne.symm (c3 x a z)
 refine⟨r,t.sameBut c f,λh' u=>⟨σ.set i (some (.ref acc)),H',?_,qq⟩⟩;exact B.turnedNew (t':=m.toks) (λb o hb e=>u.extBut b o hb e) y c1 c2 c3 k
end
def Qz (t:TE):TT:=λσ H Q=>t σ H λx H'=>∃i,x=.int i/\Q (i != 0) H'
theorem tU{X:Cx}{a:Expr}{ta:TE}(ha:PE X a ta)(he:∀whole,isTrue a X.env whole=(do let v ← whole;standAt a.pos;holding [v] (truthy v))):PT X a (Qz ta):=by
 intro pins s σ H Q I h;refine isTrue_plain (BW (ha pins s σ H _ I h) λv c ⟨x,H1,d,f,i,e,b⟩=>?_) (he _);subst e;exact X5j pins c σ H1 (.int i) v Q d f ⟨_,U,b⟩
theorem Y5j{lo:Int}{n:Nat}{tc:TT}{te:TE}{fr:St}{H1:Hp}{acc:Y0}{Q:VK}(Pv:Nat->List V->Hp->Prop)(hn:n<=sizeLine)(h0:Pv 0 [] (upd H1 acc (.lst [])))
  (hs:∀i ys H (N:Bool->Hp->Prop),i<n->ys.length<=i->Pv i ys H->(∀b a,(b=true->te (some (.int (lo+i))::fr) a λy c=>c acc=some (.lst ys)/\Pv (i+1) (ys++[y]) (upd c acc (.lst (ys++[y]))))->(b=false->Pv (i+1) ys a)->N b a)->tc (some (.int (lo+i))::fr) H N)
  (mono:∀{σ H}{R R':VK},(∀v H,R v H->R' v H)->te σ H R->te σ H R')
  (hd:∀ys H,Pv n ys H->Q (.ref acc) H):K6 (GJ lo n) (Bf 0) tc te (none::fr) H1 acc Q:=by
 refine⟨λi m ys d H2=>m=n-i/\i<=n/\ys.length<=i/\(∃v,d=v::fr)/\Pv i ys H2,⟨n,by simp,Dz _,Bj _,⟨_,U⟩,h0⟩,?_⟩;rintro i m ys d H2 ⟨rfl,hi,h,⟨v,rfl⟩,p⟩;by_cases hlt:i<n
 ·refine .inr ⟨hlt,λx k j=>?_⟩;obtain⟨rfl,rfl⟩:=j;show tc ((v::fr).set 0 (some (.int (lo+i)))) _ _;rw[List.set_cons_zero];refine hs i ys _ _ hlt h p λb a g f=>⟨λe=>mono (λy c q=>?_) (g e),λe=>⟨n-(i+1),by omega,U,hlt,by omega,⟨_,U⟩,f e⟩⟩;exact⟨q.1,by omega,n-(i+1),by omega,U,hlt,by rw[G3];simp;omega,⟨_,U⟩,q.2⟩
 ·have e:i=n:=by omega
  subst e;exact .inl ⟨Bj _,hd ys H2 p⟩
end L2
namespace Ai
open L2 Am Pc Ba
theorem Gh{X:Cx}{st:Stmt}:PS X st (λ_ _ _=>False):=λ_ _ _ _ _ _ h=>h.elim
theorem zQ{ns:U6}(h:ns.Nodup):unlike ns=ns.length:=by
 have a:∀i,i<=ns.length->(firstMet (λi=>ns.getD i 0) i).length=i:=by
  intro i;induction i with
  | zero=>intro _;rfl
  | succ i ih =>
   intro hi;rw[firstMet_succ,step_length,firstMet_any,if_neg,ih (by omega)];intro z;obtain⟨y,c,e⟩:=YZ.mp z;obtain⟨j,b,rfl⟩:=Hu.mp c;have b:=Fq.mp b;have e:ns.getD j 0=ns.getD i 0:=by simpa using e
   rw[Kq,Kq,Gp (by omega),Gp (by omega)]at e;have:=(List.getElem_inj h).mp e;omega
 exact a _ (Bj _)
noncomputable abbrev NB:List (Str×Int):=[("flip",1),("mix",1),("turn",2),("if",2),("pair",2),("swap",2),("cross",3)]
noncomputable abbrev Gy (nm:Str)(ns:U6):HO:=.tup (.str nm::ns.map V.int)
noncomputable def named (nm:Str)(ns:U6):List Int:=if nm="turn" then ns.take 1 else ns
structure Form (nm:Str) (ns:U6):Prop where
 num:numAt NB nm=some (.int ns.length)
 len:ns.length<=3
 turn:nm="turn"->∃a k,ns=[a,k]/\1<=k/\k<=7
structure Fits (nm:Str) (ns:U6) (c:Nat):Prop where
 form:Form nm ns
 low:∀a∈named nm ns,0<=a/\a<c
 nd:(named nm ns).Nodup
def qI:Sp:=λvs H Q _=>∃(p:Y0) (nm:Str) (ns:U6),vs=[.ref p]/\H p=some (Gy nm ns)/\Form nm ns/\∀H',Same H H'->Q (.bl true) H'
def kW:Sp:=λvs H Q _=>∃(p:Y0) (nm:Str) (ns:U6),vs=[.ref p]/\H p=some (Gy nm ns)/\Form nm ns/\∀(r:Y0) (H':Hp),Same H H'->H' r=some (.tup ((named nm ns).map V.int))->Q (.ref r) H'
def Uo:Sp:=λvs H Q _=>∃(p:Y0) (nm:Str) (ns:U6) (c:Nat),vs=[.ref p,.int c]/\H p=some (Gy nm ns)/\Fits nm ns c/\∀H',Same H H'->Q (.ref p) H'
def Qf (K:U0):Sp:=λvs H Q _=>∃(l:Y0) (xs:List V) (c:Nat),vs=[.ref l]/\Af K H l xs/\xs.length=2^c/\c<=6/\Q (.int c) H
variable{c:Nat}
theorem lC(h:c<=6):Builtin.Int.intBits (((2^c:Nat):Int))=c+1:=by
 have:c=0\/c=1\/c=2\/c=3\/c=4\/c=5\/c=6:=by omega
 rcases this with rfl | rfl | rfl | rfl | rfl | rfl | rfl<;>decide +kernel
variable{x:V}{xs:List V}
theorem at0:Ez (x::xs) 0=some x:=O_ (show (x::xs)[0]?=some x from rfl)
theorem XH:HT.Bp (x::xs).length 0 (some 1)=1:=by
 have:=HT.Um (x::xs).length 0 1;rw[show ((1:Nat):Int)=1 from rfl]at this;rw[this];simp
theorem rP:Du (x::xs) (some 1) none=xs:=by
 unfold Du;rw[XH];have a:HT.Bp (x::xs).length (x::xs).length none=(x::xs).length:=rfl;rw[a];simp
theorem Uc(K:U0):PySem.W.kitOne K (.type "str") (.type "str")=some true:=by unfold PySem.W.kitOne;rw[if_pos (by decide)]
section
variable {P:U8}{w:W1}{K:U0}{mg:U4}{base:Heap}{k:Nat}{h:Heap}
theorem Y2e(F:Aa K "is_whole" (top 13) .none)(X:K.In h)(G:Ng h mg)(B:Bs mg):Ag P w K mg base (k+1) "is_whole" ["thing"] K5:=by
 refine F.cal X G ["thing"] λa H vs Q E b h=>?_;obtain⟨i,rfl,q⟩:=h;refine⟨_,(@Aj _ _ _ (Ay (Nr (Cm J7 rfl B.isinstance Ik (Ab (pv 0) (Ab (I_ (v:=.ty "int") rfl B.int RZ rfl) Ae))) (Lb (wz (Cm J7 rfl B.isinstance Ik (Ab (pv 0) (Ab (I_ (v:=.ty "bool") rfl B.bool boot_bool rfl) Ae)))))))),?_⟩;try dsimp only[Bg]
 refine⟨_,U,_,_,_,true,U,CZ.int i,wR K,_,U,DQ ?_⟩;exact⟨_,U,_,_,_,false,U,CZ.int i,wQ K,_,U,q⟩
theorem Y2f(F:Aa K "cells_of" (top 47) .none)(X:K.In h)(G:Ng h mg)(B:Bs mg):Ag P w K mg base (k+1) "cells_of" ["board"] (Qf K):=by
 refine F.cal X G ["board"] λb H vs Q E d h=>?_;obtain⟨l,xs,c,rfl,a,len,c6,q⟩:=h;refine⟨_,(@Aj _ _ _ (Ay (Aq G5 (XM V1 Ry V7 Wm (Cm IW rfl B.len Fz (Ab (pv 0) Ae))) Ad))),?_⟩;try dsimp only[Bg]
 refine⟨_,U,l,_,U,.inl a,U,_,U,U,_,_,U,U,?_⟩;show Q (.int (((Builtin.Int.intBits ((xs.length:Nat):Int):Nat):Int)-1)) H;rw[len,lC c6,show (((c+1:Nat):Int)-1)=(c:Int) by omega];exact q
theorem Y8g(F:Aa K "named_cells" (top 63) .none)(X:K.In h)(G:Ng h mg)(B:Bs mg):Ag P w K mg base (k+1) "named_cells" ["move"] kW:=by
 refine F.cal X G ["move"] λg H vs Q E b h=>?_;obtain⟨p,nm,ns,rfl,hp,f,d⟩:=h;have SP:Ah K H p (.str nm::ns.map V.int):=Ah.of hp;refine⟨_,(@Aj _ _ _ (Ay (Lf (Bq Di (Al Az (pv 0) Ad (λ_ _=>rfl)) Cg (Ac _)) (J5 kE (pv 0) (Jk Ad) (Jk Ad)) (J5 kE (pv 0) (Jk Ad) Le)))),?_⟩;try dsimp only[Bg]
 refine⟨_,U,p,_,_,.str nm,U,U,SP,at0,U,_,U,BX (λz=>?_) (λz=>?_)⟩
 ·have e:nm="turn":=V.str.inj z;obtain⟨a,kk,rfl,_⟩:=f.turn e;refine⟨_,U,_,U,_,U,p,_,U,SP,.inr ⟨λc=>absurd c.1 (by rw[XH];decide),λr b=>d r _ (Ax b _) ?_⟩⟩;rw[Ao];unfold named;rw[if_pos e];rfl
 ·have e:nm≠"turn":=λc=>z (by rw[c]);refine⟨_,U,_,U,p,_,U,SP,.inr ⟨λc=>absurd c.1 (by rw[XH];decide),λr b=>d r _ (Ax b _) ?_⟩⟩;rw[Ao,rP];unfold named;rw[if_neg e]
theorem X3d(F:Aa K "has_move_form" (top 62) .none)(X:K.In h)(G:Ng h mg)(B:Bs mg){aN:Y0}(gN:mg "NUMBERS_BEHIND"=some (.ref aN))(DN:Jx K w.params aN NB)(c5:Ag P w K mg base k "is_whole" ["thing"] K5):
  Ag P w K mg base (k+1) "has_move_form" ["thing"] qI:=by
 refine F.cal X G ["thing"] λx H vs Q E j h=>?_;obtain⟨p,nm,ns,rfl,hp,g,l⟩:=h;have SP:Ah K H p (.str nm::ns.map V.int):=Ah.of hp;have l3:=g.len;have q:(V.str nm::ns.map V.int).length=ns.length+1:=by rw[NQ,BJ]
 refine⟨_,(@Ak _ _ _ _ _ (CQ (PW.pt (Fv (E_ (Dv (Cm J7 rfl B.isinstance Ik (Ab (pv 0) (Ab (I_ (v:=.ty "tuple") rfl B.tuple OD rfl) Ae))))) (Iw (Bq Di (Cm IW rfl B.len Fz (Ab (pv 0) Ae)) Ad (Ac _)))))
   (@Aj _ _ _ (Ay Ji))
   CT)
  (@Ak _ _ _ _ _ (CQ (PW.pt (Fv (E_ (Dv (Cm J7 rfl B.isinstance Ik (Ab (Al Az (pv 0) Ad (λ_ _=>rfl)) (Ab (I_ (v:=.ty "str") rfl B.str K8 rfl) Ae))))) (Iw (X5r (Y4a DN (Al Az (pv 0) Ad (λ_ _=>rfl)) (Jw (v:=.ref aN) rfl gN rfl))))))
   (@Aj _ _ _ (Ay Ji))
   CT)
  (@Ak _ _ _ _ _ (CQ (Bq Jh (Cm IW rfl B.len Fz (Ab (pv 0) Ae)) (Aq Gu Ad (X2d DN (Jw (v:=.ref aN) rfl gN rfl) (Al Az (pv 0) Ad (λ_ _=>rfl)) (λ_ _=>rfl))) (Ac _))
   (@Aj _ _ _ (Ay Ji))
   CT)
  (@Ak _ _ _ _ _ (CQ (E_ (Dv (Cm (lO rfl) rfl B.all boot_all (Ab (GD rfl (BZ.of (Nc:=["number"]) (mp:=[none]) (by kernel_rfl)) (Mj (J5 kE (pv 0) (Jk Ad) Le)) (λ_ _ _ _=>(Ck (i:=0) (show (["number"]:W0).Nodup by decide +kernel) rfl (Or.inl rfl))) (λ_ _ _ _=>(Av c5 j rfl (Ab (pv 0) Ae)))) Ae))))
   (@Aj _ _ _ (Ay Ji))
   CT)
  (@Aj _ _ _ (Ay (vJ (JB Jh (Al Az (pv 0) Ad (λ_ _=>rfl)) Cg (Ac _)) (Lb (Nr (JB VG (Al Az (pv 0) Ad (λ_ _=>rfl)) Ad (Ac _)) (Lb (JB mY (Al Az (pv 0) Ad (λ_ _=>rfl)) Ad (Ac _)))))))))))),?_⟩
 try dsimp only[Bg]
 refine⟨_,U,_,_,_,true,U,CZ.tup hp,XD K,_,U,Bc ⟨_,U,p,_,U,.inr SP,U,_,U,G4 (λz=>absurd z (by rw[q];omega)) (λ_=>?_)⟩⟩;refine⟨_,U,p,_,_,.str nm,U,U,SP,at0,_,_,_,true,U,CZ.str nm,Uc K,_,U,Bc ⟨_,U,p,_,_,.str nm,U,U,SP,at0,nm,U,_,U,?_⟩⟩;rw[g.num];refine Bc ⟨_,U,p,_,U,.inr SP,_,U,p,_,_,.str nm,U,U,SP,at0,nm,_,U,g.num,_,_,U,U,U,_,U,Ks (λz=>absurd (by rw[q];omega) z) (λ_=>?_)⟩;refine⟨_,U,_,U,p,_,U,SP,.inr ⟨λc=>absurd c.1 (by rw[XH];decide),λr j=>?_⟩⟩;rw[rP];have s:=Ax j (.tup (ns.map V.int));refine⟨r,U,⟨_,Ah.of Ao⟩,λacc f=>?_⟩;refine j5 (K:=K) (λ_=>.bl true) (Ah.of Ao) (Jy (by omega)) f (λn H2 N A y u=>⟨_,U,n,U,u⟩) (λo S3 m=>?_);have e:ns.map (λ_=>V.bl true)=(ns.map λ_=>true).map V.bl:=by rw[Jq];rfl
 rw[e]at m;have b:=s.trans S3;have d:Ah K o p (.str nm::ns.map V.int):=Ah.of (b _ _ hp);refine⟨acc,_,U,Af.of m,_,U,Js (λz=>absurd z (by simp)) (λ_=>?_)⟩;refine⟨_,U,p,_,_,.str nm,U,U,d,at0,U,_,U,Js (λ_=>l _ b) (λz=>?_)⟩;obtain⟨a,kk,rfl,k1,t⟩:=g.turn (V.str.inj (Rp z));refine⟨_,U,p,_,_,.int kk,U,U,d,U,_,_,U,U,_,U,BX (λ_=>?_) (λz=>absurd k1 z)⟩;refine⟨_,U,p,_,_,.int kk,U,U,d,U,_,_,U,U,?_⟩;show Q (.bl (decide (kk<=7))) o;rw[Jc t];exact l _ b
theorem _4(F:Aa K "check_move" (top 61) .none)(X:K.In h)(G:Ng h mg)(B:Bs mg)(d6:Ag P w K mg base k "has_move_form" ["thing"] qI)(cG:Ag P w K mg base k "named_cells" ["move"] kW):
  Ag P w K mg base (k+1) "check_move" ["move","cells"] Uo:=by
 refine F.cal X G ["move","cells","named"] λnd H vs Q E f h=>?_;obtain⟨p,nm,ns,c,rfl,hp,a,q⟩:=h;have l3:(named nm ns).length<=3:=by
  have:=a.form.len;unfold named;split
  ·rw[Oe];omega
  ·exact this
 refine⟨_,(@Ak _ _ _ _ _ (CQ (E_ (Dv (Av d6 f rfl (Ab (pv 0) Ae))))
   (@Aj _ _ _ Gh)
   CT)
  (@Ak _ _ _ _ _ (@Bd _ _ 2 _ _ _ _ nd rfl (Or.inl rfl) (Av cG f rfl (Ab (pv 0) Ae)) rfl (.inl rfl))
  (@Ak _ _ _ _ _ (CQ (Dv (Cm (Y6o rfl) rfl B.any boot_any (Ab (GD rfl (BZ.of (Nc:=["cell","cells"]) (mp:=[none,some 1]) (by kernel_rfl)) (Mj (pv 2)) (λ_ _ _ _=>(Ck (i:=0) (show (["cell","cells"]:W0).Nodup by decide +kernel) rfl (Or.inl rfl))) (λ_ _ _ _=>(vJ (JB Nk (pv 0) Ad (Ac _)) (Lb (JB VG (pv 0) (pv 1) (Ac _)))))) Ae)))
   (@Aj _ _ _ Gh)
   CT)
  (@Ak _ _ _ _ _ (CQ (Bq Jh (Cm Y6m rfl B.len Fz (Ab (IV (Y6j rfl) rfl B.set boot_set (Ab (pv 2) Ae)) Ae)) (Cm IW rfl B.len Fz (Ab (pv 2) Ae)) (Ac _))
   (@Aj _ _ _ Gh)
   CT)
  (@Aj _ _ _ (Ay (pv 0))))))),?_⟩
 try dsimp only[Bg]
 refine⟨_,U,p,nm,ns,U,hp,a.form,λH1 m=>⟨_,U,Bc ?_⟩⟩;refine⟨_,U,p,nm,ns,U,m _ _ hp,a.form,λr H2 j f=>?_⟩;have d:Ah K H2 r ((named nm ns).map V.int):=Ah.of f;refine⟨_,U,r,U,⟨_,d⟩,λacc b=>?_⟩;refine j5 (K:=K) (λ_=>.bl false) d (Jy (by omega)) b (λn H2 N s j u=>?_) (λx S3 g=>?_)
 ·obtain⟨y,v⟩:=a.low n s;refine⟨_,U,_,_,U,U,_,U,BX (λz=>absurd z (by omega)) (λ_=>?_)⟩;refine⟨_,U,_,U,_,_,U,U,?_⟩;show N (.bl (decide ((c:Int)<=n))) _;rw[FZ (by omega)];exact u
 have e:(named nm ns).map (λ_=>V.bl false)=((named nm ns).map λ_=>false).map V.bl:=by rw[Jq];rfl
 rw[e]at g;refine⟨acc,_,U,Af.of g,_,U,?_⟩;rw[show ((named nm ns).map λ_=>false).any id=false by simp];refine Bc ?_;refine⟨_,U,r,_,U,S3.tup d,by omega,λl S t=>?_⟩;have o:=Ax t (.set S (unlike (named nm ns)));have un:=zQ a.nd;refine⟨l,S,_,U,Ao,by omega,_,U,r,_,U,.inr (o.tup (S3.tup d)),U,_,U,Ks (λz=>absurd (by rw[un,BJ]) z) (λ_=>?_)⟩;exact⟨_,U,q _ (((m.trans j).trans S3).trans o)⟩
end
inductive Mv where
 | flip (a:Nat)
 | turn (a k:Nat)
 | iff (a b:Nat)
 | pair (a b:Nat)
 | swap (a b:Nat)
 | cross (a b d:Nat)
noncomputable def Kw (w a b:Nat):Nat:=if w&&&(2^a ||| 2^b)=2^a\/w&&&(2^a ||| 2^b)=2^b then w^^^(2^a ||| 2^b) else w
namespace Mv
noncomputable def nm:Mv->Str
 | flip _=>"flip"
 | turn _ _=>"turn"
 | iff _ _=>"if"
 | pair _ _=>"pair"
 | swap _ _=>"swap"
 | cross _ _ _=>"cross"
noncomputable def ns:Mv->List Int
 | flip a=>[(a:Int)]
 | turn a k=>[(a:Int),(k:Int)]
 | iff a b=>[(a:Int),(b:Int)]
 | pair a b=>[(a:Int),(b:Int)]
 | swap a b=>[(a:Int),(b:Int)]
 | cross a b d=>[(a:Int),(b:Int),(d:Int)]
def Ok (c:Nat):Mv->Prop
 | flip a=>a<c
 | turn a k=>a<c/\1<=k/\k<=7
 | iff a b=>a<c/\b<c/\a≠b
 | pair a b=>a<c/\b<c/\a≠b
 | swap a b=>a<c/\b<c/\a≠b
 | cross a b d=>a<c/\b<c/\d<c/\a≠b/\a≠d/\b≠d
noncomputable def to (w:Nat):Mv->Nat
 | flip a=>w^^^2^a
 | iff a b=>if w&&&2^a=0 then w else w^^^2^b
 | swap a b=>Kw w a b
 | cross a b d=>if w&&&2^a=0 then w else Kw w b d
 | _=>w
noncomputable def sp (w:Nat):Mv->Nat
 | turn a k=>if w&&&2^a=2^a then k else 0
 | pair a b=>if w&&&(2^a ||| 2^b)=(2^a ||| 2^b) then 4 else 0
 | _=>0
end Mv
noncomputable abbrev at2 (w a:Nat):Nat:=w / 2^a%2
noncomputable def c1 (c a w:Nat):Bool:=decide ((Mv.flip a).to w<2^c) && decide ((Mv.flip a).to ((Mv.flip a).to w)=w) && decide ((w:Int)+(1-2*(at2 w a:Int))*((2^a:Nat):Int)=((Mv.flip a).to w:Nat)) &&
 decide ((if w&&&2^a=2^a then 1 else 0)=at2 w a)
noncomputable def c2 (c a b w:Nat):Bool:=decide (a=b) || (decide ((Mv.iff a b).to w<2^c) && decide ((Mv.iff a b).to ((Mv.iff a b).to w)=w) && decide ((w:Int)+(at2 w a:Int)*(1-2*(at2 w b:Int))*((2^b:Nat):Int)=((Mv.iff a b).to w:Nat)) &&
 decide ((Mv.swap a b).to w<2^c) && decide ((Mv.swap a b).to ((Mv.swap a b).to w)=w) && decide ((w:Int)+((at2 w b:Int)-(at2 w a:Int))*(((2^a:Nat):Int)-((2^b:Nat):Int))=((Mv.swap a b).to w:Nat)) &&
 decide (4*at2 w a*at2 w b=(Mv.pair a b).sp w))
noncomputable def c3 (c a b d w:Nat):Bool:=decide (a=b) || decide (a=d) || decide (b=d) || (decide ((Mv.cross a b d).to w<2^c) && decide ((Mv.cross a b d).to ((Mv.cross a b d).to w)=w) &&
 decide ((w:Int)+(at2 w a:Int)*((at2 w d:Int)-(at2 w b:Int))*(((2^b:Nat):Int)-((2^d:Nat):Int))=((Mv.cross a b d).to w:Nat)))
theorem X7w:((List.range 7).all λc=>(List.range c).all λa=>(List.range (2^c)).all λw=>c1 c a w)=true:=by decide +kernel
theorem X7v:((List.range 7).all λc=>(List.range c).all λa=>(List.range c).all λb=>(List.range (2^c)).all λw=>c2 c a b w)=true:=by decide +kernel
theorem X7u:((List.range 7).all λc=>(List.range c).all λa=>(List.range c).all λb=>(List.range c).all λd=>(List.range (2^c)).all λw=>c3 c a b d w)=true:=by decide +kernel
theorem DR{p:Nat->Bool}{n i:Nat}(h:(List.range n).all p=true)(hi:i<n):p i=true:=J1.mp h i (Fq.mpr hi)
section
variable {c a b d w:Nat}
theorem X9x(hc:c<=6)(ha:a<c)(hw:w<2^c):c1 c a w=true:=DR (DR (DR X7w (by omega:c<7)) ha) hw
theorem X9w(hc:c<=6)(ha:a<c)(hb:b<c)(hw:w<2^c):c2 c a b w=true:=DR (DR (DR (DR X7v (by omega:c<7)) ha) hb) hw
theorem X9v(hc:c<=6)(ha:a<c)(hb:b<c)(hd:d<c)(hw:w<2^c):c3 c a b d w=true:=DR (DR (DR (DR (DR X7u (by omega:c<7)) ha) hb) hd) hw
theorem wH(hc:c<=6)(ha:a<c)(hw:w<2^c):(Mv.flip a).to w<2^c/\(Mv.flip a).to ((Mv.flip a).to w)=w/\(w:Int)+(1-2*(at2 w a:Int))*((2^a:Nat):Int)=((Mv.flip a).to w:Nat)/\(if w&&&2^a=2^a then 1 else 0)=at2 w a:=by
 have:=X9x hc ha hw;unfold c1 at this;simp only[Gk,K_]at this;exact⟨this.1.1.1,this.1.1.2,this.1.2,this.2⟩
theorem Wt(hc:c<=6)(ha:a<c)(hb:b<c)(n:a≠b)(hw:w<2^c):((Mv.iff a b).to w<2^c/\(Mv.iff a b).to ((Mv.iff a b).to w)=w/\(w:Int)+(at2 w a:Int)*(1-2*(at2 w b:Int))*((2^b:Nat):Int)=((Mv.iff a b).to w:Nat)) /\
  ((Mv.swap a b).to w<2^c/\(Mv.swap a b).to ((Mv.swap a b).to w)=w/\(w:Int)+((at2 w b:Int)-(at2 w a:Int))*(((2^a:Nat):Int)-((2^b:Nat):Int))=((Mv.swap a b).to w:Nat))/\4*at2 w a*at2 w b=(Mv.pair a b).sp w:=by
 have:=X9w hc ha hb hw;unfold c2 at this;rw[FZ n,Vk]at this;simp only[Gk,K_]at this;obtain⟨⟨⟨⟨⟨⟨h1,h2⟩,g⟩,f⟩,h⟩,e⟩,d⟩:=this;exact⟨⟨h1,h2,g⟩,⟨f,h,e⟩,d⟩
theorem rW(hc:c<=6)(ha:a<c)(hb:b<c)(hd:d<c)(n1:a≠b)(n2:a≠d)(n3:b≠d)(hw:w<2^c):(Mv.cross a b d).to w<2^c/\(Mv.cross a b d).to ((Mv.cross a b d).to w)=w /\
  (w:Int)+(at2 w a:Int)*((at2 w d:Int)-(at2 w b:Int))*(((2^b:Nat):Int)-((2^d:Nat):Int))=((Mv.cross a b d).to w:Nat):=by
 have:=X9v hc ha hb hd hw;unfold c3 at this;rw[FZ n1,FZ n2,FZ n3,Vk,Vk,Vk]at this;simp only[Gk,K_]at this;exact⟨this.1.1,this.1.2,this.2⟩
end
variable{v:Mv}{w:Nat}
theorem Mv.to_lt(hc:c<=6)(h:v.Ok c)(hw:w<2^c):v.to w<2^c:=by
 cases v with
 | flip a=>exact(wH hc h hw).1
 | turn a k=>exact hw
 | iff a b=>exact(Wt hc h.1 h.2.1 h.2.2 hw).1.1
 | pair a b=>exact hw
 | swap a b=>exact(Wt hc h.1 h.2.1 h.2.2 hw).2.1.1
 | cross a b d=>exact(rW hc h.1 h.2.1 h.2.2.1 h.2.2.2.1 h.2.2.2.2.1 h.2.2.2.2.2 hw).1
theorem Mv.to_to(hc:c<=6)(h:v.Ok c)(hw:w<2^c):v.to (v.to w)=w:=by
 cases v with
 | flip a=>exact(wH hc h hw).2.1
 | turn a k=>rfl
 | iff a b=>exact(Wt hc h.1 h.2.1 h.2.2 hw).1.2.1
 | pair a b=>rfl
 | swap a b=>exact(Wt hc h.1 h.2.1 h.2.2 hw).2.1.2.1
 | cross a b d=>exact(rW hc h.1 h.2.1 h.2.2.1 h.2.2.2.1 h.2.2.2.2.1 h.2.2.2.2.2 hw).2.1
theorem Mv.fits(h:v.Ok c):Fits v.nm v.ns c:=by
 cases v with
 | flip a =>
  have e:named "flip" [(a:Int)]=[(a:Int)]:=by unfold named;rw[if_neg (by decide +kernel)]
  have h:a<c:=h;exact⟨⟨(show numAt NB "flip"=some (.int ((1:Nat):Int)) by decide +kernel),(show 1<=3 by decide),λz=>absurd (show ("flip":Str)="turn" from z) (by decide +kernel)⟩,by show ∀x∈named "flip" [(a:Int)],_;rw[e];intro b hb;rw[Ko.mp hb];omega,by show (named "flip" [(a:Int)]).Nodup;rw[e];simp⟩
 | turn a k =>
  have e:named "turn" [(a:Int),(k:Int)]=[(a:Int)]:=by unfold named;rw[if_pos rfl];rfl
  have h:a<c/\1<=k/\k<=7:=h;exact⟨⟨(show numAt NB "turn"=some (.int ((2:Nat):Int)) by decide +kernel),(show 2<=3 by decide),λ_=>⟨a,k,U,by omega,by omega⟩⟩,by show ∀x∈named "turn" [(a:Int),(k:Int)],_;rw[e];intro b hb;rw[Ko.mp hb];omega,by show (named "turn" [(a:Int),(k:Int)]).Nodup;rw[e];simp⟩
 | iff a b =>
  have e:named "if" [(a:Int),(b:Int)]=[(a:Int),(b:Int)]:=by unfold named;rw[if_neg (by decide +kernel)]
  have h:a<c/\b<c/\a≠b:=h;exact⟨⟨(show numAt NB "if"=some (.int ((2:Nat):Int)) by decide +kernel),(show 2<=3 by decide),λz=>absurd (show ("if":Str)="turn" from z) (by decide +kernel)⟩,by show ∀x∈named "if" [(a:Int),(b:Int)],_;rw[e];intro x f;simp at f;omega,by show (named "if" [(a:Int),(b:Int)]).Nodup;rw[e];simp;omega⟩
 | pair a b =>
  have e:named "pair" [(a:Int),(b:Int)]=[(a:Int),(b:Int)]:=by unfold named;rw[if_neg (by decide +kernel)]
  have h:a<c/\b<c/\a≠b:=h;exact⟨⟨(show numAt NB "pair"=some (.int ((2:Nat):Int)) by decide +kernel),(show 2<=3 by decide),λz=>absurd (show ("pair":Str)="turn" from z) (by decide +kernel)⟩,by show ∀x∈named "pair" [(a:Int),(b:Int)],_;rw[e];intro x f;simp at f;omega,by show (named "pair" [(a:Int),(b:Int)]).Nodup;rw[e];simp;omega⟩
 | swap a b =>
  have e:named "swap" [(a:Int),(b:Int)]=[(a:Int),(b:Int)]:=by unfold named;rw[if_neg (by decide +kernel)]
  have h:a<c/\b<c/\a≠b:=h;exact⟨⟨(show numAt NB "swap"=some (.int ((2:Nat):Int)) by decide +kernel),(show 2<=3 by decide),λz=>absurd (show ("swap":Str)="turn" from z) (by decide +kernel)⟩,by show ∀x∈named "swap" [(a:Int),(b:Int)],_;rw[e];intro x f;simp at f;omega,by show (named "swap" [(a:Int),(b:Int)]).Nodup;rw[e];simp;omega⟩
 | cross a b d =>
  have e:named "cross" [(a:Int),(b:Int),(d:Int)]=[(a:Int),(b:Int),(d:Int)]:=by unfold named;rw[if_neg (by decide +kernel)]
  have h:a<c/\b<c/\d<c/\a≠b/\a≠d/\b≠d:=h;exact⟨⟨(show numAt NB "cross"=some (.int ((3:Nat):Int)) by decide +kernel),(show 3<=3 by decide),λz=>absurd (show ("cross":Str)="turn" from z) (by decide +kernel)⟩,by show ∀x∈named "cross" [(a:Int),(b:Int),(d:Int)],_;rw[e];intro x f;simp at f;omega,by show (named "cross" [(a:Int),(b:Int),(d:Int)]).Nodup;rw[e];simp;omega⟩
end Ai
namespace Dk
open PySem.Sem (wp)
section
variable {prog:U8}{w:W1}{A:W7}{E:U2}{s:U7}{d it:Y0}{es:Array DictEntry}{i ep:Nat}
end
end Dk
namespace L2
def Ite (K:U0)(l:Y0):It :=
 ⟨λi H=>∃xs x,Af K H l xs/\xs[i]?=some x,
 λi H v H'=>∃T x,v=.ref T/\H T=none/\H'=upd H T (.tup [.int i,x])/\∀xs,Af K H l xs->xs[i]?=some x,
 λi H=>∃xs,Af K H l xs/\xs.length<=i⟩
theorem Y2u{P:U8}{w:W1}{K:U0}{es:List Expr}{kk:Nat}{tp:Pos}{e it l:Y0}(ne:e≠it)(nl:l≠e):
  Turn P w K (.Tuple es kk tp) (Ite K l) [e,it] e (λi h=>(∃a,IsEnum h e it i a)/\h.IsListIter it l i) where
 mem:=by simp
 obj:=λi h st b hb=>by
  obtain⟨⟨a,c⟩,o,d,_,L⟩:=st;simp only[Cy,Ei,Eh]at hb;rcases hb with rfl | rfl
  ·exact⟨_,c,λv q=>by have J:Data.fields _=Data.cell v:=q;cases J⟩
  ·exact⟨o,d,λv z=>by rw[L]at z;cases z⟩
 keep:=λi h h' st k=>by
  obtain⟨⟨a,c⟩,d⟩:=st;exact⟨⟨a,k e (by simp) _ c⟩,d.at λo q=>k it (by simp) o q⟩
 item:=by
  intro X y t m F i pins s σ H E I f st r;subst y t m;obtain⟨xs,x,g,D⟩:=r;obtain⟨⟨a,c⟩,d⟩:=st;obtain⟨its,B,p,S⟩:=I.list g;obtain⟨u,n,Q⟩:=B.get D;refine wpAny_pyNext_enum_item c d p.isList (x:=u) (by simpa using n) ne λh' M R N Y G=>?_;refine⟨_,U,ZC M λh2 c1 j=>?_⟩;have V:s.heap.objs.size≠e:=Lr (Bv c);have k2:∀b o,b∉[e,it]->s.heap.get? b=some o->h2.get? b=some o:=λb o hb q=>by
   simp only[Cy,Ei,Eh,not_or]at hb;exact j.extBut b o hb.1 (G b o hb.1 hb.2 q)
  have T:IsTup h2 s.heap.objs.size ([.int i s.toks,u]:U5).toArray:=⟨_,j.extBut _ _ V N,U,_,U⟩;refine⟨.ref s.heap.objs.size,upd H s.heap.objs.size (.tup [.int i,x]),I.turnedT (t':=s.toks+1) k2 f (Bj _) (.cons ⟨_,U⟩ (.cons Q .nil)) (by show 2<=sizeLine;decide) T,U,⟨_,x,U,I.hok.fresh (Bj _),U,λW h1=>?_⟩,⟨⟨u,?_⟩,?_⟩,λb hb=>?_⟩
  ·rw[I.list_inj h1 g];exact D
  ·exact_mod_cast c1
  ·exact R.at λo q=>j.extBut _ _ ne.symm q
  ·have A:b<s.heap.objs.size:=by
    simp only[Cy,Ei,Eh]at hb;rcases hb with rfl | rfl
    ·exact Bv c
    ·obtain⟨o,q,_⟩:=d;exact Bv q
   rw[CK (Cw A)];exact(f b hb).1
 done:=by
  intro X y t m F i pins s σ H E I f st r;subst y t m;obtain⟨xs,g,C⟩:=r;obtain⟨⟨a,c⟩,d⟩:=st;obtain⟨its,B,p,S⟩:=I.list g;have Z:=B.length;refine wpAny_pyNext_enum_end (I.ok.hd F) c d p.isList (by simp;omega) λh' O=>⟨U,I.turnedL (t':=s.toks) (ch:=[e,it]) (λb o hb q=>?_) f⟩;simp only[Cy,Ei,Eh,not_or]at hb;exact O b o hb.2 q
 self:=λ_ _ _ _ _ st h=>by
  obtain⟨⟨a,c⟩,_⟩:=st;exact P_ c h
section
variable {X:Cx}{es:List Expr}{kk:Nat}{tp:Pos}
def Tt (K:U0)(ta:TA):TI:=λσ H R=>ta σ H λvs H1=>∃l xs,vs=[.ref l]/\Af K H1 l xs/\R (Ite K l) H1
theorem X2a{a:Expr}{ta:TA}{p pos:Pos}(hg:Gl X "enumerate")(hm:X.mg "enumerate"=none)(ha:PA X [a] ta)(hs:starEach [a] X.env=[(false,eval a X.env)]:=by rfl):
  PI X (.Tuple es kk tp) (.Call (.Name "enumerate" p) [a] [] pos) (Tt X.K ta):=by
 intro pins s σ H R I h;refine Call_ (Mi I hg hm YM (PyProof.Rows.callWith_type1 (BW (ha pos pins s σ H _ I h) λus c ⟨vs,H1,f,k,j⟩=>?_) (by rw[hs];rfl) (by rfl)));obtain⟨l,xs,e,h1,q⟩:=j;subst e;cases k with
 | cons r rr =>
  cases rr;cases r;obtain⟨its,w,pl,v⟩:=f.list h1;refine call_enumerate_list pl.isList λh' i m u n=>?_;have t:Inv X pins σ H1 {c with heap:=h'}:=f.kept (t':=c.toks) n;have g:l<c.heap.objs.size:=by obtain⟨o,q,_⟩:=pl.isList;exact Bv q
  refine P_ i ⟨_,[c.heap.objs.size+1,c.heap.objs.size],_,_,H1,U,t,Y2u (Yd _) (Cw (Py g)),⟨⟨_,i⟩,m⟩,λb hb=>?_,q⟩;have d:c.heap.objs.size<=b:=by
   simp only[Cy,Ei,Eh]at hb;rcases hb with rfl | rfl
   ·exact Vh _
   ·exact Bj _
  exact f.fpOk d (f.hok.fresh d)
end
end L2
namespace Ai
open L2 Am Pc Ba
theorem Jr(x y:Nat):Builtin.bitOr (x:Int) (y:Int)=((x ||| y:Nat):Int):=by
 have h:Builtin.bitXor (x:Int) (y:Int)=Builtin.bitOr x y-Builtin.bitAnd x y:=rfl;rw[O6,Jg]at h;have e:=Wx (x+y+1) x y (by omega) (by omega);omega
variable{K:U0}{l:Y0}
theorem _W{g:TG}{xs:List V}{te:TE}{fr:L2.St}{H1:Hp}{acc:Y0}{Q:VK}(Pv:Nat->List V->Hp->Prop)(hn:xs.length<=sizeLine)(h0:Pv 0 [] (upd H1 acc (.lst [])))
  (hl:∀i ys H,Pv i ys H->Af K H l xs)
  (hg:∀{a:Y0}{x y:V}{w1 w2:Option V}{H:Hp}{Q:L2.St->Hp->Prop},H a=some (.tup [x,y])->Q (some x::some y::fr) H->g (.ref a) (w1::w2::fr) H Q)
  (hs:∀i x ys H (T:Y0) (N:V->Hp->Prop),xs[i]?=some x->ys.length=i->Pv i ys H->H T=none->(∀y b,b acc=some (.lst ys)->Pv (i+1) (ys++[y]) (upd b acc (.lst (ys++[y])))->N y b)->te (some (.int i)::some x::fr) (upd H T (.tup [.int i,x])) N)
  (hd:∀ys H,ys.length=xs.length->Pv xs.length ys H->Q (.ref acc) H):Hq (Ite K l) g te (none::none::fr) H1 acc Q:=by
 refine⟨λi m zs f H2=>m=xs.length-i/\i<=xs.length/\zs.length=i/\(∃v w,f=v::w::fr)/\Pv i zs H2,⟨xs.length,by simp,Dz _,U,⟨_,_,U⟩,h0⟩,?_⟩;rintro i m zs f H2 ⟨rfl,hi,c,⟨v,w,rfl⟩,p⟩;have d:=hl i zs H2 p;by_cases hlt:i<xs.length
 ·have j:xs[i]?=some xs[i]:=by simp[hlt]
  refine .inr ⟨⟨xs,_,d,j⟩,λu r o=>?_⟩;obtain⟨T,x,rfl,n,rfl,h1⟩:=o;have h:=h1 xs d;refine hg (x:=.int i) (y:=x) Ao (hs i x zs H2 T _ h c p n λy b q k=>⟨q,by omega,xs.length-(i+1),by omega,U,hlt,by simp[c],⟨_,_,U⟩,k⟩)
 ·have e:i=xs.length:=by omega
  subst e;exact .inl ⟨⟨xs,d,Bj _⟩,hd zs H2 c p⟩
def Ig:Sp:=λvs H Q _=>∃w a b:Nat,vs=[.int w,.int ((2^a:Nat):Int),.int ((2^b:Nat):Int)]/\∀H',Same H H'->Q (.int (Kw w a b:Nat)) H'
def ug:Sp:=λvs H Q _=>∃(w:Nat) (p:Y0) (v:Mv) (c:Nat),vs=[.int w,.ref p]/\H p=some (Gy v.nm v.ns)/\v.Ok c/\c<=6/\v.nm≠"turn"/\v.nm≠"pair"/\∀H',Same H H'->Q (.int (v.to w:Nat)) H'
structure Bo (K:U0) (H:Hp) (l:Y0) (ps:U3) (f:Nat->A5) (c:Nat):Prop where
 lst:H l=some (.lst (ps.map V.ref))
 len:ps.length=2^c
 vals:BR K H ps f
variable{H H':Hp}{ps:U3}{f:Nat->A5}{c:Nat}
theorem Bo.same(b:Bo K H l ps f c)(s:Same H H'):Bo K H' l ps f c:=⟨s _ _ b.lst,b.len,b.vals.same s⟩
theorem Bo.at{i:Nat}(b:Bo K H l ps f c)(hi:i<2^c):∃p,ps[i]?=some p/\Ce K H p (f i)/\Ez (ps.map V.ref) (i:Int)=some (.ref p):=by
 have a:i<ps.length:=by rw[b.len];exact hi
 refine⟨ps[i],Gp a,b.vals i _ (Gp a),O_ (by rw[Dw,Gp a];rfl)⟩
def u0 (K:U0):Sp:=λvs H Q _=>∃(l:Y0) (ps:U3) (f:Nat->A5) (c bits:Nat) (k:Int),vs=[.ref l,.int bits,.int k]/\Bo K H l ps f c/\c<=6 /\
 ∀(r:Y0) (H':Hp) (qs:U3) (g:Nat->A5),H r=none->Same H H'->Bo K H' r qs g c->(∀w,w<2^c->g w=if w&&&bits=bits then Bk (f w) k else f w)->Q (.ref r) H'
theorem jd(x a b:Int):inV (.int x) [.int a,.int b]=(decide (a=x) || decide (b=x)):=by
 unfold inV;simp only[YK,List.any_nil,YJ,MP];rfl
section
variable {P:U8}{w:W1}{K:U0}{mg:U4}{base:Heap}{k:Nat}{h:Heap}
theorem X3e(F:Aa K "exchanged" (top 69) .none)(X:K.In h)(G:Ng h mg):Ag P w K mg base (k+1) "exchanged" ["word","bit","other"] Ig:=by
 refine F.cal X G ["word","bit","other","both"] λg H vs Q E i h=>?_;obtain⟨x,a,b,rfl,q⟩:=h
 refine⟨_,(@Ak _ _ _ _ _ (@Bd _ _ 3 _ _ _ _ g rfl (Or.inl rfl) (Aq Nm (pv 1) (pv 2)) rfl (.inl rfl))
  (@Aj _ _ _ (Ay (Lf (Bq Y4g (Aq LR (pv 0) (pv 3)) (@Fw _ _ _ _ _ (Ab (pv 1) (Ab (pv 2) Ae))) rfl) (Aq Ue (pv 0) (pv 3)) (pv 0))))),?_⟩
 try dsimp only[Bg]
 refine⟨_,U,_,U,_,_,U,U,?_⟩;refine⟨_,U,_,U,_,_,U,U,_,U,_,U,t2,λtp e=>?_⟩;refine⟨tp,_,U,.inr (Ah.of Ao),U,U,_,U,?_⟩;have f:=Ax e (.tup [.int ((2^a:Nat):Int),.int ((2^b:Nat):Int)]);have d:=q _ f;unfold Kw at d;show if (inV (.int (Builtin.bitAnd (x:Int) (Builtin.bitOr ((2^a:Nat):Int) ((2^b:Nat):Int)))) [.int ((2^a:Nat):Int),.int ((2^b:Nat):Int)])=true then _ else _;rw[Jr,Jg,jd];by_cases c:x&&&(2^a ||| 2^b)=2^a\/x&&&(2^a ||| 2^b)=2^b
 ·rw[if_pos (by rw[YS,K_,K_];omega)];rw[if_pos c]at d;refine⟨_,U,_,U,_,_,U,U,?_⟩;show Q (.int (Builtin.bitXor (x:Int) (Builtin.bitOr ((2^a:Nat):Int) ((2^b:Nat):Int)))) _;rw[Jr,O6];exact d
 ·rw[if_neg (by rw[YS,K_,K_];omega)];rw[if_neg c]at d;exact⟨_,U,d⟩
theorem Y4y(F:Aa K "word_behind" (top 68) .none)(X:K.In h)(G:Ng h mg)(cG:Ag P w K mg base k "named_cells" ["move"] kW)(d5:Ag P w K mg base k "exchanged" ["word","bit","other"] Ig):
  Ag P w K mg base (k+1) "word_behind" ["word","move"] ug:=by
 refine F.cal X G ["word","move","bits"] λC H vs Q E m h=>?_;obtain⟨x,p,v,c,rfl,hp,ok,c6,nt,L,q⟩:=h;have u:=Mv.fits ok;have en:named v.nm v.ns=v.ns:=by unfold named;rw[if_neg nt]
 have A:v.ns.length<=3:=u.form.len;have low:∀a∈v.ns,0<=a/\a<6:=λa I=>by
  have:=u.low a (by rw[en];exact I);omega
 refine⟨_,(@Ak _ _ _ _ _ (Wg (i:=2) rfl C rfl rfl (BZ.of (Nc:=["cell"]) (mp:=[none]) (by kernel_rfl)) (Mj (Av cG m rfl (Ab (pv 1) Ae))) (λ_ _ _ _=>(Ck (i:=0) (show (["cell"]:W0).Nodup by decide +kernel) rfl (Or.inl rfl))) (λ_ _ _ _=>(Aq K3 Ad (pv 0))) rfl)
  (@Ak _ _ _ _ _ (CQ (Bq Di (Al Az (pv 1) Ad (λ_ _=>rfl)) Cg (Ac _))
   (@Aj _ _ _ (Ay (Aq Ue (pv 0) (Al DK (pv 2) Ad (λ_ _=>rfl)))))
   CT)
  (@Ak _ _ _ _ _ (CQ (Bq Di (Al Az (pv 1) Ad (λ_ _=>rfl)) Cg (Ac _))
   (@Aj _ _ _ (Ay (Av d5 m rfl (Ab (pv 0) (Ab (Al DK (pv 2) Ad (λ_ _=>rfl)) (Ab (Al DK (pv 2) Ad (λ_ _=>rfl)) Ae))))))
   CT)
  (@Ak _ _ _ _ _ (CQ (E_ (tU (Aq LR (pv 0) (Al DK (pv 2) Ad (λ_ _=>rfl))) (by intro _;rfl)))
   (@Aj _ _ _ (Ay (pv 0)))
   CT)
  (@Ak _ _ _ _ _ (CQ (Bq Di (Al Az (pv 1) Ad (λ_ _=>rfl)) Cg (Ac _))
   (@Aj _ _ _ (Ay (Aq Ue (pv 0) (Al DK (pv 2) Ad (λ_ _=>rfl)))))
   CT)
  (@Aj _ _ _ (Ay (Av d5 m rfl (Ab (pv 0) (Ab (Al DK (pv 2) Ad (λ_ _=>rfl)) (Ab (Al DK (pv 2) Ad (λ_ _=>rfl)) Ae))))))))))),?_⟩
 try dsimp only[Bg]
 refine⟨_,U,p,v.nm,v.ns,U,hp,u.form,λr H1 J m=>?_⟩;rw[en]at m;refine⟨r,U,⟨_,Ah.of m⟩,λacc o=>?_⟩;refine j5 (K:=K) (λn=>.int (1*2^n.toNat)) (Ah.of m) (Jy (by omega)) o (λn H2 N B O M=>⟨_,U,_,_,U,U,⟨1,N7,(low n B).1,by have:=(low n B).2;omega⟩,M⟩) (λH3 S3 D=>?_);have f:=J.trans S3;have y:=q H3 f;have SP:Ah K H3 p (.str v.nm::v.ns.map V.int):=Ah.of (f _ _ hp);have l:Af K H3 acc (v.ns.map λn=>V.int (1*2^n.toNat)):=Af.of D;have j:∀a:Nat,(1:Int)*2^((a:Int)).toNat=((2^a:Nat):Int):=λa=>ipow a;cases v with
 | flip a =>
  refine⟨_,U,p,_,_,.str "flip",U,U,SP,at0,U,_,U,BX (λ_=>?_) (λz=>absurd rfl z)⟩;refine⟨_,U,_,U,acc,_,_,.int (1*2^((a:Int)).toNat),U,U,l,U,_,_,U,U,?_⟩;show Q (.int (Builtin.bitXor (x:Int) (1*2^((a:Int)).toNat))) H3;rw[j,O6];exact y
 | turn a k=>exact absurd rfl nt
 | pair a b=>exact absurd rfl L
 | swap a b =>
  refine⟨_,U,p,_,_,.str "swap",U,U,SP,at0,U,_,U,BX (λz=>absurd (V.str.inj z) (by decide +kernel)) (λ_=>?_)⟩;refine⟨_,U,p,_,_,.str "swap",U,U,SP,at0,U,_,U,BX (λ_=>?_) (λz=>absurd rfl z)⟩;refine⟨_,U,_,U,acc,_,_,.int (1*2^((a:Int)).toNat),U,U,l,U,_,U,acc,_,_,.int (1*2^((b:Int)).toNat),U,U,l,U,?_⟩;exact⟨x,a,b,by show [V.int (x:Int),V.int (1*2^((a:Int)).toNat),V.int (1*2^((b:Int)).toNat)]=_;rw[j,j],λs t=>q s (f.trans t)⟩
 | iff a b =>
  refine⟨_,U,p,_,_,.str "if",U,U,SP,at0,U,_,U,BX (λz=>absurd (V.str.inj z) (by decide +kernel)) (λ_=>?_)⟩;refine⟨_,U,p,_,_,.str "if",U,U,SP,at0,U,_,U,BX (λz=>absurd (V.str.inj z) (by decide +kernel)) (λ_=>?_)⟩;refine⟨_,U,_,U,acc,_,_,.int (1*2^((a:Int)).toNat),U,U,l,U,_,_,U,U,_,U,?_⟩;rw[j,Jg];have g:Q (.int ((if x&&&2^a=0 then x else x^^^2^b:Nat):Int)) H3:=y;by_cases e:x&&&2^a=0
  ·rw[if_pos e]at g;rw[e];exact DQ ⟨_,U,g⟩
  ·rw[if_neg e]at g;rw[show ((((x&&&2^a:Nat):Int) != 0)=true) by simpa using e];refine Bc ⟨_,U,p,_,_,.str "if",U,U,SP,at0,U,_,U,BX (λ_=>?_) (λz=>absurd rfl z)⟩;refine⟨_,U,_,U,acc,_,_,.int (1*2^((b:Int)).toNat),U,U,l,U,_,_,U,U,?_⟩;show Q (.int (Builtin.bitXor (x:Int) (1*2^((b:Int)).toNat))) H3;rw[j,O6];exact g
 | cross a b d =>
  refine⟨_,U,p,_,_,.str "cross",U,U,SP,at0,U,_,U,BX (λz=>absurd (V.str.inj z) (by decide +kernel)) (λ_=>?_)⟩;refine⟨_,U,p,_,_,.str "cross",U,U,SP,at0,U,_,U,BX (λz=>absurd (V.str.inj z) (by decide +kernel)) (λ_=>?_)⟩;refine⟨_,U,_,U,acc,_,_,.int (1*2^((a:Int)).toNat),U,U,l,U,_,_,U,U,_,U,?_⟩;rw[j,Jg];have g:∀H',Same H H'->Q (.int ((if x&&&2^a=0 then x else Kw x b d:Nat):Int)) H':=q;by_cases e:x&&&2^a=0
  ·rw[if_pos e]at g;rw[e];exact DQ ⟨_,U,g _ f⟩
  ·rw[if_neg e]at g;rw[show ((((x&&&2^a:Nat):Int) != 0)=true) by simpa using e];refine Bc ⟨_,U,p,_,_,.str "cross",U,U,SP,at0,U,_,U,BX (λz=>absurd (V.str.inj z) (by decide +kernel)) (λ_=>?_)⟩;refine⟨_,U,_,U,acc,_,_,.int (1*2^((b:Int)).toNat),U,U,l,U,_,U,acc,_,_,.int (1*2^((d:Int)).toNat),U,U,l,U,?_⟩;exact⟨x,b,d,by show [V.int (x:Int),V.int (1*2^((b:Int)).toNat),V.int (1*2^((d:Int)).toNat)]=_;rw[j,j],λs t=>g s (f.trans t)⟩
theorem X3i(v:Mv):v.nm≠"mix":=by
 cases v with
 | flip a=>exact(show ("flip":Str)≠"mix" by decide +kernel)
 | turn a k=>exact(show ("turn":Str)≠"mix" by decide +kernel)
 | iff a b=>exact(show ("if":Str)≠"mix" by decide +kernel)
 | pair a b=>exact(show ("pair":Str)≠"mix" by decide +kernel)
 | swap a b=>exact(show ("swap":Str)≠"mix" by decide +kernel)
 | cross a b d=>exact(show ("cross":Str)≠"mix" by decide +kernel)
variable{v:Mv}
theorem X3j(h:v.nm="turn"):∃a k,v=.turn a k:=by
 cases v with
 | flip a=>exact absurd h (show ("flip":Str)≠"turn" by decide +kernel)
 | turn a k=>exact⟨a,k,rfl⟩
 | iff a b=>exact absurd h (show ("if":Str)≠"turn" by decide +kernel)
 | pair a b=>exact absurd h (show ("pair":Str)≠"turn" by decide +kernel)
 | swap a b=>exact absurd h (show ("swap":Str)≠"turn" by decide +kernel)
 | cross a b d=>exact absurd h (show ("cross":Str)≠"turn" by decide +kernel)
theorem X3k(h:v.nm="pair"):∃a b,v=.pair a b:=by
 cases v with
 | flip a=>exact absurd h (show ("flip":Str)≠"pair" by decide +kernel)
 | turn a k=>exact absurd h (show ("turn":Str)≠"pair" by decide +kernel)
 | iff a b=>exact absurd h (show ("if":Str)≠"pair" by decide +kernel)
 | pair a b=>exact⟨a,b,rfl⟩
 | swap a b=>exact absurd h (show ("swap":Str)≠"pair" by decide +kernel)
 | cross a b d=>exact absurd h (show ("cross":Str)≠"pair" by decide +kernel)
theorem X1s(h:v.nm≠"turn")(h':v.nm≠"pair")(w:Nat):v.sp w=0:=by
 cases v with
 | turn a k=>exact absurd rfl h
 | pair a b=>exact absurd rfl h'
 | flip a=>rfl
 | iff a b=>rfl
 | swap a b=>rfl
 | cross a b d=>rfl
theorem Y7r(F:Aa K "spun_where" (top 67) .none)(X:K.In h)(G:Ng h mg)(B:Bs mg)(cX:Ag P w K mg base k "spun" ["one","k"] (QZ K)):Ag P w K mg base (k+1) "spun_where" ["board","bits","k"] (u0 K):=by
 refine F.cal X G ["board","bits","k"] λZ H vs Q E n h=>?_;obtain⟨l,ps,g,c,bits,kk,rfl,s,c6,J⟩:=h;have L:=HJ c6;have S:Af K H l (ps.map V.ref):=Af.of s.lst;have lps:(ps.map V.ref).length=2^c:=by rw[BJ,s.len]
 refine⟨_,(@Aj _ _ _ (Ay (GD rfl (BZ.of (Nc:=["word","one","bits","k"]) (mp:=[none,none,some 1,some 2]) (by kernel_rfl)) (X2a rfl B.enumerate (Ab (pv 0) Ae)) (λ_ _ _ _=>(Qd rfl (show (["word","one","bits","k"]:W0).Nodup by decide +kernel) rfl rfl rfl rfl)) (λ_ _ _ _=>(Lf (Bq Di (Aq LR (pv 0) (pv 2)) (pv 2) (Ac _)) (Av cX n rfl (Ab (pv 1) (Ab (pv 3) Ae))) (pv 1)))))),?_⟩;try dsimp only[Bg]
 refine⟨_,U,l,_,U,S,λacc b=>?_⟩;refine _W (K:=K) (l:=l) (xs:=ps.map V.ref) (fr:=[some (.int bits),some (.int kk)]) (λi ys H'=>∃(a:U3) (y:Nat->A5),Same H H'/\H' acc=some (.lst ys)/\ys=a.map V.ref/\a.length=i/\BR K H' a y/\∀j,j<i->y j=if j&&&bits=bits then Bk (g j) kk else g j) (by rw[lps];exact Jy L)
  ⟨[],λ_=>((0,0,0,0),0),Ax b _,Ao,U,U,(λ_ _ z=>by cases z),λj C=>absurd C (Oc _)⟩ (λi ys H' p=>by obtain⟨a,y,M,_⟩:=p;exact Af.of (M _ _ s.lst)) (λh q=>⟨_,_,U,Ah.of h,U,_,_,U,_,_,U,U,q⟩) ?_ ?_
 ·rintro i x ys H2 T N D R ⟨a,y,t,u,rfl,m,v2,f⟩ W Y;rw[Dw]at D;obtain⟨p,hp,rfl⟩:=GZ.mp D;have I:=(s.vals i p hp).same t;have A:=Ax W (.tup [.int i,.ref p]);have o:∀(r:Y0) (H5:Hp) (z:A5),Same (upd H2 T (.tup [.int i,.ref p])) H5->Ce K H5 r z->z=(if i&&&bits=bits then Bk (g i) kk else g i)->N (.ref r) H5:=λr H5 z v n O=>by
   have d:=A.trans v;refine Y (.ref r) H5 (d _ _ u) ⟨a++[r],λj=>if j=a.length then z else y j,Et (t.trans d) b,Ao,by rw[Dn];rfl,by simp[m],Ml (xs:=a.map V.ref) (Mr v2 d n) (d _ _ u),λj C=>?_⟩;show (if j=a.length then z else y j)=_;by_cases e:j=a.length
   ·rw[if_pos e,O,e,m]
   ·rw[if_neg e];exact f j (by omega)
  refine⟨_,U,_,U,_,_,U,U,_,U,U,_,U,?_⟩;show if decide (V.int (Builtin.bitAnd (i:Int) (bits:Int))=V.int (bits:Int))=true then _ else _;rw[Jg];by_cases e:i&&&bits=bits
  ·rw[Jc (by rw[e])];refine DQ ⟨_,U,_,U,p,_,_,_,_,_,_,U,I.same A,λr H5 v n=>o r H5 (Bk (g i) kk) v n (by rw[if_pos e])⟩
  ·rw[FZ (λz=>e (by have:=V.int.inj z;omega))];exact Bc ⟨_,U,o p _ (g i) (Same.refl _) (I.same A) (by rw[if_neg e])⟩
 ·rintro ys H2 R ⟨a,y,t,u,rfl,m,v2,f⟩;rw[lps]at m f;exact J acc H2 a y b t ⟨u,m,v2⟩ f
noncomputable def Vc (c a w:Nat):Bool:=decide (w&&&2^a=0) == decide (w / 2^a%2=0) && if w / 2^a%2=0 then decide ((w ||| 2^a)=w+2^a) && decide (w+2^a<2^c) && decide ((w+2^a) / 2^a%2=1) else decide ((w^^^2^a)=w-2^a) && decide (2^a<=w) && decide ((w-2^a) / 2^a%2=0)
theorem X1j:((List.range 7).all λc=>(List.range c).all λa=>(List.range (2^c)).all λw=>Vc c a w)=true:=by decide +kernel
variable{a:Nat}
theorem oH{w:Nat}(hc:c<=6)(ha:a<c)(hw:w<2^c):Vc c a w=true :=
 J1.mp (J1.mp (J1.mp X1j c (Fq.mpr (by omega))) a (Fq.mpr ha)) w (Fq.mpr hw)
theorem vN{w:Nat}(hc:c<=6)(ha:a<c)(hw:w<2^c)(h:w / 2^a%2=0):w&&&2^a=0/\(w ||| 2^a)=w+2^a/\w+2^a<2^c/\(w+2^a) / 2^a%2=1:=by
 have:=oH hc ha hw;unfold Vc at this;rw[if_pos h,Jc h]at this;simpa [and_assoc] using this
theorem xO{w:Nat}(hc:c<=6)(ha:a<c)(hw:w<2^c)(h:¬ w / 2^a%2=0):w&&&2^a≠0/\(w^^^2^a)=w-2^a/\2^a<=w/\(w-2^a) / 2^a%2=0:=by
 have:=oH hc ha hw;unfold Vc at this;rw[if_neg h,FZ h]at this;simpa [and_assoc] using this
structure Mix (s:Int) (x y z:A5):Prop where
 ex:∃p:A5,Sum x.1.1 x.1.2.1 x.1.2.2.1 x.1.2.2.2 x.2 (s*y.1.1) (s*y.1.2.1) (s*y.1.2.2.1) (s*y.1.2.2.2) y.2 p.1.1 p.1.2.1 p.1.2.2.1 p.1.2.2.2 p.2 /\
  Fx z.1.1 z.1.2.1 z.1.2.2.1 z.1.2.2.2 z.2/\CG (p.1.2.1-p.1.2.2.2) (p.1.1+p.1.2.2.1) (p.1.2.1+p.1.2.2.2) (p.1.2.2.1-p.1.1) (p.2+1) z.1.1 z.1.2.1 z.1.2.2.1 z.1.2.2.2 z.2
variable{x y:A5}
theorem QJ(h:x.1.1=y.1.1/\x.1.2.1=y.1.2.1/\x.1.2.2.1=y.1.2.2.1/\x.1.2.2.2=y.1.2.2.2/\x.2=y.2):x=y:=by
 obtain⟨⟨a,b,c,d⟩,h1⟩:=x;obtain⟨⟨a',b',c',d'⟩,h2⟩:=y;obtain⟨rfl,rfl,rfl,rfl,rfl⟩:=h;rfl
def Cq (f:Nat->A5)(a w:Nat)(z:A5):Prop:=if w / 2^a%2=0 then Mix 1 (f w) (f (w+2^a)) z else Mix (-1) (f (w-2^a)) (f w) z
structure Bx (K:U0) (H:Hp) (l:Y0) (ps:U3) (f:Nat->A5) (c n m:Nat):Prop where
 lst:H l=some (.lst (ps.map V.ref))
 len:ps.length=2^c
 vals:BR K H ps f
 ok:∀i,i<2^c->Em n m (f i)
variable{n m:Nat}
theorem Bx.same(b:Bx K H l ps f c n m)(s:Same H H'):Bx K H' l ps f c n m:=⟨s _ _ b.lst,b.len,b.vals.same s,b.ok⟩
theorem Bx.at{i:Nat}(b:Bx K H l ps f c n m)(hi:i<2^c):∃p,ps[i]?=some p/\Ce K H p (f i)/\Ez (ps.map V.ref) (i:Int)=some (.ref p):=by
 have a:i<ps.length:=by rw[b.len];exact hi
 refine⟨ps[i],Gp a,b.vals i _ (Gp a),O_ (by rw[Dw,Gp a];rfl)⟩
def qX (K:U0):Sp:=λvs H Q _=>∃(l:Y0) (ps:U3) (f:Nat->A5) (c n m a wd:Nat),vs=[.ref l,.int wd,.int ((2^a:Nat):Int)]/\Bx K H l ps f c n m/\c<=6/\a<c/\wd<2^c/\n<=450000/\m<=10000 /\
 ∀(r:Y0) (H':Hp) (z:A5),Same H H'->H' r=some (tA z)->Em (n+2*m+3) (m+1:Nat) z->Cq f a wd z->Q (.ref r) H'
def um (K:U0):Sp:=λvs H Q _=>∃(l:Y0) (ps:U3) (f:Nat->A5) (c n m a:Nat),vs=[.ref l,.int ((2^a:Nat):Int)]/\Bx K H l ps f c n m/\c<=6/\a<c/\n<=450000/\m<=10000 /\
 ∀(r:Y0) (H':Hp) (qs:U3) (g:Nat->A5),H r=none->Same H H'->Bx K H' r qs g c (n+2*m+3) (m+1)->(∀w,w<2^c->Cq f a w (g w))->Q (.ref r) H'
theorem wg{z p:A5}(ox:Em n m x)(oy:Em n m y)(hp:p.2<=max x.2 y.2)(sp:Gw (n+x.2.toNat+y.2.toNat+2) p.1.1 p.1.2.1 p.1.2.2.1 p.1.2.2.2)
  (r:Red (p.1.2.1-p.1.2.2.2) (p.1.1+p.1.2.2.1) (p.1.2.1+p.1.2.2.2) (p.1.2.2.1-p.1.1) (p.2+1) z.1.1 z.1.2.1 z.1.2.2.1 z.1.2.2.2 z.2):Em (n+2*m+3) (m+1:Nat) z:=by
 have e:=ox.le;have f:=oy.le;have c:=ox.amt.nn;have d:=oy.amt.nn;have s:Gw (n+2*m+2) p.1.1 p.1.2.1 p.1.2.2.1 p.1.2.2.2:=sp.mono (by omega);have neg:∀{u v:Int},Sz (n+2*m+2) u->Sz (n+2*m+2) v->Sz (n+2*m+3) (u-v):=λa b=>by rw[Int.sub_eq_add_neg];exact(a.add b.neg).mono (by omega)
 have add:∀{u v:Int},Sz (n+2*m+2) u->Sz (n+2*m+2) v->Sz (n+2*m+3) (u+v):=λa b=>(a.add b).mono (by omega);refine⟨r.sz ⟨neg s.z2 s.z4,add s.z1 s.z3,add s.z2 s.z4,neg s.z3 s.z1⟩,r.amt,?_⟩;have:=r.le;omega
theorem wK{p q:Y0}(hp:Ce K H p x)(hq:Ce K H q y)(ox:Em n m x)(oy:Em n m y)(hn:n<=450000)(hm:m<=10000):Vb K n [.ref p,.ref q] H p q x.1.1 x.1.2.1 x.1.2.2.1 x.1.2.2.2 x.2 y.1.1 y.1.2.1 y.1.2.2.1 y.1.2.2.2 y.2:=by
 have:=ox.le;have:=oy.le;exact⟨U,hp,hq,ox.amt.nn,oy.amt.nn,by omega,by omega,ox.sz,oy.sz⟩
theorem Y2d(F:Aa K "mixed_at" (top 66) .none)(X:K.In h)(G:Ng h mg)(dJ:Ag P w K mg base k "rooted" ["one"] uq)(d8:Ag P w K mg base k "minus" ["one","other"] (Wj K))(cK:Ag P w K mg base k "plus" ["one","other"] (PJ K)):
  Ag P w K mg base (k+1) "mixed_at" ["board","word","bit"] (qX K):=by
 refine F.cal X G ["board","word","bit"] λnd H vs Q E t h=>?_;obtain⟨l,ps,g,c,n,m,a,s,rfl,b,c6,ac,d,n3,m1,kq⟩:=h;have A:Af K H l (ps.map V.ref):=Af.of b.lst
 refine⟨_,(@Ak _ _ _ _ _ (CQ (tU (Aq LR (pv 1) (pv 2)) (by intro _;rfl))
   (@Aj _ _ _ (Ay (Av dJ t rfl (Ab (Av d8 t rfl (Ab (Al DK (pv 0) (Aq Ue (pv 1) (pv 2)) (λ_ _=>rfl)) (Ab (Al DK (pv 0) (pv 1) (λ_ _=>rfl)) Ae))) Ae))))
   CT)
  (@Aj _ _ _ (Ay (Av dJ t rfl (Ab (Av cK t rfl (Ab (Al DK (pv 0) (pv 1) (λ_ _=>rfl)) (Ab (Al DK (pv 0) (Aq Nm (pv 1) (pv 2)) (λ_ _=>rfl)) Ae))) Ae))))),?_⟩
 try dsimp only[Bg]
 by_cases hb:s / 2^a%2=0
 ·obtain⟨S,L,Y,_⟩:=vN c6 ac d hb;obtain⟨p,_,hp,Z⟩:=b.at d;obtain⟨q,_,W,T⟩:=b.at Y;refine⟨_,U,_,U,_,_,U,U,_,U,?_⟩;rw[Jg,S];refine Bc ?_;refine⟨_,U,_,U,l,_,_,_,U,U,A,Z,_,U,_,U,_,U,_,_,U,U,l,_,_,_,U,U,A,(by rw[Jr,L];exact T),?_⟩;have ox:=b.ok _ d;have r:=b.ok _ Y;refine⟨n,p,q,_,_,_,_,_,_,_,_,_,_,wK hp W ox r n3 m1,λJ H1 x y z u v O o f M=>?_⟩;refine⟨J,x,y,z,u,v,U,o,f.amt.nn,λC H2 N I z' R B D j e=>?_⟩;refine kq C H2 ((N,I,z',R),B) (O.trans D) j (wg (p:=((x,y,z,u),v)) ox r f.le M e) ?_;unfold Cq;rw[if_pos hb];exact⟨((x,y,z,u),v),by simpa only[Rb] using f,e.amt,e.same⟩
 ·obtain⟨S,L,Y,_⟩:=xO c6 ac d hb;obtain⟨p,_,hp,Z⟩:=b.at (i:=s-2^a) (Vv (Nat.sub_le _ _) d);obtain⟨q,_,W,T⟩:=b.at d;have ox:=b.ok (s-2^a) (Vv (Nat.sub_le _ _) d);have r:=b.ok _ d;refine⟨_,U,_,U,_,_,U,U,_,U,?_⟩;rw[Jg,show ((((s&&&2^a:Nat):Int) != 0)=true) by simpa using S];refine DQ ?_;refine⟨_,U,_,U,_,U,_,_,U,U,l,_,_,_,U,U,A,(by rw[O6,L];exact Z),_,U,_,U,l,_,_,_,U,U,A,T,?_⟩;refine⟨n,p,q,_,_,_,_,_,_,_,_,_,_,wK hp W ox r n3 m1,λJ H1 x y z u v O o f M=>?_⟩;refine⟨J,x,y,z,u,v,U,o,f.amt.nn,λC H2 N I z' R B D j e=>?_⟩;refine kq C H2 ((N,I,z',R),B) (O.trans D) j (wg (p:=((x,y,z,u),v)) ox r f.le M e) ?_;unfold Cq;rw[if_neg hb];exact⟨((x,y,z,u),v),by simpa only[Int.neg_one_mul] using f,e.amt,e.same⟩
theorem Y8h(F:Aa K "mixed" (top 65) .none)(X:K.In h)(G:Ng h mg)(B:Bs mg)(eA:Ag P w K mg base k "mixed_at" ["board","word","bit"] (qX K)):Ag P w K mg base (k+1) "mixed" ["board","bit"] (um K):=by
 refine F.cal X G ["board","bit"] λY H vs Q E J h=>?_;obtain⟨l,ps,g,c,n,m,a,rfl,p,c6,O,T,M,x⟩:=h;have I:=HJ c6;have R:Af K H l (ps.map V.ref):=Af.of p.lst;have o:(((ps.map V.ref).length:Nat):Int).toNat=2^c:=by rw[BJ,p.len,J2]
 refine⟨_,(@Aj _ _ _ (Ay (GD rfl (BZ.of (Nc:=["word","board","bit"]) (mp:=[none,some 0,some 1]) (by kernel_rfl)) (Mq rfl B.range (Ab (Cm IW rfl B.len Fz (Ab (pv 0) Ae)) Ae)) (λ_ _ _ _=>(Ck (i:=0) (show (["word","board","bit"]:W0).Nodup by decide +kernel) rfl (Or.inl rfl))) (λ_ _ _ _=>(Av eA J rfl (Ab (pv 1) (Ab (pv 0) (Ab (pv 2) Ae)))))))),?_⟩;try dsimp only[Bg]
 refine⟨_,U,l,_,U,.inl R,_,U,by rw[BJ,p.len];omega,by rw[BJ,p.len];omega,λacc d=>?_⟩;rw[o];refine Ut (n:=2^c) (fr:=[some (.ref l),some (.int ((2^a:Nat):Int))]) (λi ys H'=>∃(b:U3) (y:Nat->A5),Same H H'/\H' acc=some (.lst ys)/\ys=b.map V.ref/\b.length=i/\BR K H' b y/\∀j,j<i->Em (n+2*m+3) (m+1:Nat) (y j)/\Cq g a j (y j)) (Jy I)
  ⟨[],λ_=>((0,0,0,0),0),Ax d _,Ao,U,U,(λ_ _ z=>by cases z),λj v=>absurd v (Oc _)⟩ ?_ ?_
 ·rintro i ys H2 N hi L ⟨b,y,s,t,rfl,q,v2,f⟩ S;refine⟨_,U,_,U,_,U,l,ps,g,c,n,m,a,i,(by show [V.ref l,V.int (0+(i:Int)),_]=_;rw[Rj]),p.same s,c6,O,hi,T,M,λr A z S3 u W C=>?_⟩;refine S (.ref r) A (S3 _ _ t) ⟨b++[r],λj=>if j=b.length then z else y j,Et (s.trans S3) d,Ao,by rw[Dn];rfl,by simp[q],Ml (xs:=b.map V.ref) (Mr v2 S3 (Ce.of u)) (S3 _ _ t),λj v=>?_⟩;by_cases e:j=b.length
  ·show Em _ _ (if j=b.length then z else y j)/\Cq g a j (if j=b.length then z else y j);rw[if_pos e,e,q];exact⟨W,C⟩
  ·show Em _ _ (if j=b.length then z else y j)/\Cq g a j (if j=b.length then z else y j);rw[if_neg e];exact f j (by omega)
 ·rintro ys H2 L ⟨b,y,s,t,rfl,q,v2,f⟩;exact x acc H2 b y d s ⟨t,q,v2,λi hi=>(f i hi).1⟩ λw D=>(f w D).2
end
end Ai
namespace L2
abbrev Mm:=Str×List Int
noncomputable abbrev mT (m:Mm):HO:=.tup (.str m.1::m.2.map V.int)
def VN (H:Hp):List Addr->List Mm->Prop:=Paired λp m=>H p=some (mT m)
section
variable {P:U8}{w:W1}{H:Hp}{h:Heap}
end
section
variable {X:Cx}
end
end L2
namespace L2
theorem zm:bootBuiltins "reversed"=some (.type "reversed"):=by decide +kernel
def Xi (K:U0)(a:Y0)(n:Nat):It :=
 ⟨λi H=>i<n/\∃xs,Af K H a xs/\xs.length=n,λi H x H'=>H'=H/\∀xs,Af K H a xs->xs[n-1-i]?=some x,λi _=>i=n⟩
theorem Y7b{P:U8}{w:W1}{K:U0}{tg:Expr}(a it:Y0)(n:Nat):Turn P w K tg (Xi K a n) [it] it (λi h=>i<=n/\h.IsRevIter it a ((n:Int)-1-(i:Int))) where
 mem:=by simp
 obj:=λi h st b hb=>by
  cases Ko.mp hb;obtain⟨_,o,e,c,d⟩:=st;exact⟨o,e,λv z=>by rw[d]at z;cases z⟩
 keep:=λi h h' st k=>⟨st.1,st.2.at λo e=>k it (by simp) o e⟩
 item:=by
  intro X C t m G i pins s σ H E I l st q;subst C t m;obtain⟨hi,xs,F,W⟩:=q;obtain⟨its,T,p,V⟩:=I.list F;have j:n-1-i<xs.length:=by omega
  obtain⟨u,M,S⟩:=T.get (Gp j);obtain⟨A,B,Q,D,y,r⟩:=l it (by simp);have O:(n:Int)-1-(i:Int)=((n-1-i:Nat):Int):=by omega
  have f:=st.2;rw[O]at f;refine wpAny_pyNext_rev_item f p.isList (x:=u) (by simpa using M) λh' g J=>?_;have L:Inv X pins σ H {s with heap:=h'}:=I.turned (t':=s.toks) (λb o hb e=>(J.2 b hb).trans e) A B D y r;rw[show ((n-1-i:Nat):Int)-1=(n:Int)-1-((i+1:Nat):Int) by omega]at g;obtain⟨o,e,c,d⟩:=id g;refine⟨u,U,Wv (s:={s with heap:=h'}) e c d (by decide) ⟨xs[n-1-i],H,L,S,⟨U,λys R=>?_⟩,⟨hi,g⟩,λb hb=>(l b hb).1⟩⟩;rw[I.list_inj R F];exact Gp j
 done:=by
  intro X C t m G i pins s σ H E I l st q;subst C t m;obtain⟨A,B,Q,D,y,r⟩:=l it (by simp);have hi:i=n:=q;have f:=st.2;rw[hi,show (n:Int)-1-(n:Int)=-1 by omega]at f;exact wpAny_pyNext_rev_end (I.ok.hd G) f λh' N=>⟨U,I.turned (t':=s.toks) (λb o hb e=>N b o hb e) A B D y r⟩
 self:=λ_ _ _ _ _ st h=>wpAny_pyIter_revIter st.2 h
def jh (K:U0)(ta:TA):TI:=λσ H R=>ta σ H λvs H1=>∃(l:Y0) (xs:List V),vs=[.ref l]/\Af K H1 l xs/\R (Xi K l xs.length) H1
theorem X5v{X:Cx}{tg a:Expr}{ta:TA}{p pos:Pos}(hg:Gl X "reversed")(hm:X.mg "reversed"=none)(ha:PA X [a] ta)(hs:starEach [a] X.env=[(false,eval a X.env)]:=by rfl):
  PI X tg (.Call (.Name "reversed" p) [a] [] pos) (jh X.K ta):=by
 intro pins s σ H R I h;refine Call_ (Mi I hg hm zm (PyProof.Rows.callWith_type1 (BW (ha pos pins s σ H _ I h) λus c ⟨vs,H1,f,j,g⟩=>?_) (by rw[hs];rfl) (by rfl)));obtain⟨l,xs,e,h1,q⟩:=g;subst e;cases j with
 | cons r rr =>
  cases rr;cases r;obtain⟨its,k,pl,m⟩:=f.list h1;have i:=k.length;refine call_reversed_list pl.isList ?_;have d:(c.heap.push (revObj l ((its.toArray.size:Int)-1))).IsRevIter c.heap.objs.size l ((xs.length:Int)-1-((0:Nat):Int)):=⟨_,Ej _ rfl,U,by rw[Eb,<-i];simp;rfl⟩;refine wpAny_pyIter_revIter (s:={c with heap:=c.heap.push (revObj l ((its.toArray.size:Int)-1))}) d ⟨c.heap.objs.size,[c.heap.objs.size],_,_,H1,U,f.kept (t':=c.toks) λb o e=>Df _ e,Y7b l _ xs.length,⟨Dz _,d⟩,λb hb=>?_,q⟩;cases Ko.mp hb;exact f.fpOk (Bj _) (f.hok.fresh (Bj _))
theorem X6q{K:U0}{a:Y0}{xs:List V}{te:TE}{fr:St}{H1:Hp}{acc:Y0}{Q:VK}(Pv:Nat->List V->Hp->Prop)(hn:xs.length<=sizeLine)(h0:Pv 0 [] (upd H1 acc (.lst [])))
  (hl:∀i ys H,Pv i ys H->Af K H a xs)
  (hs:∀i x ys H (N:V->Hp->Prop),xs.reverse[i]?=some x->ys.length=i->Pv i ys H->(∀y H5,H5 acc=some (.lst ys)->Pv (i+1) (ys++[y]) (upd H5 acc (.lst (ys++[y])))->N y H5)->te (some x::fr) H N)
  (hd:∀ys H,ys.length=xs.length->Pv xs.length ys H->Q (.ref acc) H):
  Hq (Xi K a xs.length) (Bf 0) te (none::fr) H1 acc Q:=by
 have b:∀i,i<xs.length->xs.reverse[i]?=some (xs.getD (xs.length-1-i) .non)/\xs[xs.length-1-i]?=some (xs.getD (xs.length-1-i) .non):=λi hi=>by
  have c:xs.length-1-i<xs.length:=by omega
  have e:xs[xs.length-1-i]?=some (xs.getD (xs.length-1-i) .non):=by rw[Kq,Gp c];rfl
  exact⟨by rw[Yu hi];exact e,e⟩
 refine Ww (J:=Xi K a xs.length) (n:=xs.length) (val:=λi=>xs.getD (xs.length-1-i) .non) Pv hn h0 (λi ys H hi p=>⟨⟨hi,xs,hl i ys H p,U⟩,λx H' y=>⟨y.1,?_⟩⟩) (λys H p=>rfl) (λi ys H N hi f p d=>hs i _ ys H N (b i hi).1 f p d) hd;have:=y.2 xs (hl i ys H p);rw[(b i hi).2]at this;exact(Option.some.inj this).symm
end L2
namespace Ai
open L2 Am Pc Ba
variable{h g:Int}
theorem Iv{x y N:Int}(hh:0<=h)(hg:0<=g)(h1:h<=N)(h2:g<=N):Dy x h y g↔x*p2 (N-h)=y*p2 (N-g):=by
 unfold Dy;have c:=Ju hh h1;have d:=Ju hg h2;have i:=Es h;have e:=Es g;have k:=Es (N-h);have j:=Es (N-g);have f:=Es N;constructor
 ·intro z;have:(x*p2 (N-h))*(p2 h*p2 g)=(y*p2 (N-g))*(p2 h*p2 g):=by
   have a:(x*p2 (N-h))*(p2 h*p2 g)=(x*p2 g)*p2 N:=by rw[c];grind
   have b:(y*p2 (N-g))*(p2 h*p2 g)=(y*p2 h)*p2 N:=by rw[d];grind
   rw[a,b,z]
  exact Jd (NP i e) this
 ·intro z;have:(x*p2 g)*p2 N=(y*p2 h)*p2 N:=by
   have a:(x*p2 (N-h))*(p2 h*p2 g)=(x*p2 g)*p2 N:=by rw[c];grind
   have b:(y*p2 (N-g))*(p2 h*p2 g)=(y*p2 h)*p2 N:=by rw[d];grind
   rw[<-a,<-b,z]
  exact Jd f this
noncomputable def va (x:A5)(M:Int):Int:=x.1.1*p2 (M-x.2)
noncomputable def vb (x:A5)(M:Int):Int:=x.1.2.1*p2 (M-x.2)
noncomputable def vc (x:A5)(M:Int):Int:=x.1.2.2.1*p2 (M-x.2)
noncomputable def vd (x:A5)(M:Int):Int:=x.1.2.2.2*p2 (M-x.2)
theorem X2f{n:Int}(h:0<=n):p2 (n+2)=4*p2 n:=by
 rw[H_ h (by decide),show p2 2=4 from rfl,Jb]
variable{M:Int}
theorem Wb{a a' u h':Int}(h0:0<=h)(h0':0<=h')(g0:0<=g)(l1:h+h'<=M)(l2:g<=M)(e:Dy (a*p2 h'+a'*p2 h) (h+h') u g):u*p2 (M-g)=a*p2 (M-h)+a'*p2 (M-h'):=by
 have z:=(Iv (by omega) g0 l1 l2).mp e;have c:p2 (M-h)=p2 (M-(h+h'))*p2 h':=by rw[<-H_ (by omega) h0'];congr 1;omega
 have b:p2 (M-h')=p2 (M-(h+h'))*p2 h:=by rw[<-H_ (by omega) h0];congr 1;omega
 rw[<-z,c,b];grind
theorem Wh{u v:Int}(h0:0<=h)(g0:0<=g)(l1:h<=M)(l2:g<=M+1)(e:Dy u (h+1) v g):v*p2 (M+1-g)=u*p2 (M-h):=by
 have z:=(Iv (N:=M+1) (by omega) g0 (by omega) l2).mp e;rw[<-z];congr 2;omega
variable{x y z:A5}
theorem Mix.vals{s:Int}(m:Mix s x y z)(hx:0<=x.2)(hy:0<=y.2):∃M0:Int,∀M,M0<=M ->
  va z (M+1)=(vb x M+s*vb y M)-(vd x M+s*vd y M)/\vb z (M+1)=(va x M+s*va y M)+(vc x M+s*vc y M)/\vc z (M+1)=(vb x M+s*vb y M)+(vd x M+s*vd y M)/\vd z (M+1)=(vc x M+s*vc y M)-(va x M+s*va y M):=by
 obtain⟨p,S,d,R⟩:=m.ex;have a:=S.amt.nn;have b:=d.nn;refine⟨x.2+y.2+p.2+z.2,λM l=>?_⟩;have l1:x.2+y.2<=M:=by omega
 have l2:p.2<=M:=by omega
 have l3:z.2<=M+1:=by omega
 have g:=Wb hx hy a l1 l2 S.same.e1;have h:=Wb hx hy a l1 l2 S.same.e2;have e:=Wb hx hy a l1 l2 S.same.e3;have k:=Wb hx hy a l1 l2 S.same.e4;have i:=Wh a b l2 l3 R.e1;have f:=Wh a b l2 l3 R.e2;have j:=Wh a b l2 l3 R.e3;have c:=Wh a b l2 l3 R.e4;unfold va vb vc vd;rw[i,f,j,c,Int.sub_mul,Int.add_mul,Int.add_mul,Int.sub_mul,g,h,e,k];refine⟨?_,?_,?_,?_⟩<;>grind
theorem vA(ax:Fx x.1.1 x.1.2.1 x.1.2.2.1 x.1.2.2.2 x.2)(ay:Fx y.1.1 y.1.2.1 y.1.2.2.1 y.1.2.2.2 y.2)(l1:x.2<=M)(l2:y.2<=M)(e1:va x M=va y M)(e2:vb x M=vb y M)(e3:vc x M=vc y M)(e4:vd x M=vd y M):x=y :=
 QJ (ax.unique ay ⟨(Iv ax.nn ay.nn l1 l2).mpr e1,(Iv ax.nn ay.nn l1 l2).mpr e2,(Iv ax.nn ay.nn l1 l2).mpr e3,(Iv ax.nn ay.nn l1 l2).mpr e4⟩)
theorem u_(l:x.2<=M):va x (M+2)=4*va x M/\vb x (M+2)=4*vb x M/\vc x (M+2)=4*vc x M/\vd x (M+2)=4*vd x M:=by
 unfold va vb vc vd;rw[show M+2-x.2=(M-x.2)+2 by omega,X2f (by omega)];refine⟨?_,?_,?_,?_⟩<;>grind
theorem Mix.amt{s:Int}(m:Mix s x y z):Fx z.1.1 z.1.2.1 z.1.2.2.1 z.1.2.2.2 z.2:=by
 obtain⟨p,_,a,_⟩:=m.ex;exact a
theorem X3p{z0 z1 x' y':A5}(ax:Fx x.1.1 x.1.2.1 x.1.2.2.1 x.1.2.2.2 x.2)(ay:Fx y.1.1 y.1.2.1 y.1.2.2.1 y.1.2.2.2 y.2)(m0:Mix 1 x y z0)(m1:Mix (-1) x y z1)(n0:Mix 1 z0 z1 x')(n1:Mix (-1) z0 z1 y'):x'=x/\y'=y:=by
 have h:=m0.amt;have c:=m1.amt;have d:=n0.amt;have b:=n1.amt;obtain⟨f,h1⟩:=m0.vals ax.nn ay.nn;obtain⟨a,h2⟩:=m1.vals ax.nn ay.nn;obtain⟨g,r⟩:=n0.vals h.nn c.nn;obtain⟨e,q⟩:=n1.vals h.nn c.nn;have nx:=ax.nn;have H:=ay.nn;have m:=d.nn;have u:=b.nn;obtain⟨M,g1,g2,g3,g4,g5,g6,g7,g8⟩:∃M:Int,f<=M/\a<=M/\g<=M+1/\e<=M+1/\x.2<=M/\y.2<=M/\x'.2<=M/\y'.2<=M :=
  ⟨max f 0+max a 0+max g 0+max e 0+x.2+y.2+x'.2+y'.2,by omega,by omega,by omega,by omega,by omega,by omega,by omega,by omega⟩
 obtain⟨A,t,z,E⟩:=h1 M g1;obtain⟨D,B,C,G⟩:=h2 M g2;obtain⟨k,j,n,i⟩:=r (M+1) g3;obtain⟨l,o,p,s⟩:=q (M+1) g4;obtain⟨x1,x2,x3,x4⟩:=u_ g5;obtain⟨w,v,I,F⟩:=u_ g6;rw[show M+1+1=M+2 by omega]at k j n i l o p s;constructor
 ·exact vA d ax (M:=M+2) (by omega) (by omega) (by omega) (by omega) (by omega) (by omega)
 ·exact vA b ay (M:=M+2) (by omega) (by omega) (by omega) (by omega) (by omega) (by omega)
inductive Gm where
 | mv (v:Mv)
 | mix (a:Nat)
namespace Gm
noncomputable def nm:Gm->Str
 | mv v=>v.nm
 | mix _=>"mix"
noncomputable def ns:Gm->List Int
 | mv v=>v.ns
 | mix a=>[(a:Int)]
def Ok (c:Nat):Gm->Prop
 | mv v=>v.Ok c
 | mix a=>a<c
noncomputable def back:Gm->Gm
 | mv (.turn a k)=>mv (.turn a (8-k))
 | m=>m
noncomputable abbrev mm (m:Gm):Mm:=(m.nm,m.ns)
end Gm
def Step (c:Nat):Gm->(Nat->A5)->(Nat->A5)->Prop
 | .mv v,f,g=>∀w,w<2^c->g w=Bk (f (v.to w)) (v.sp w:Nat)
 | .mix a,f,g=>∀w,w<2^c->Cq f a w (g w)
inductive Steps (c:Nat):List Gm->(Nat->A5)->(Nat->A5)->Prop
 | nil {f:Nat->A5}:Steps c [] f f
 | cons {m:Gm}{ms:List Gm}{f g h:Nat->A5}:Step c m f g->Steps c ms g h->Steps c (m::ms) f h
theorem Steps.append{c:Nat}:∀{a b:List Gm}{f h:Nat->A5},Steps c (a++b) f h->∃k,Steps c a f k/\Steps c b k h
 | [],_,f,_,s=>⟨f,.nil,s⟩
 | m::a,b,f,h,.cons s t=>by
  obtain⟨k,x,y⟩:=Steps.append (a:=a) (b:=b) t;exact⟨k,.cons s x,y⟩
theorem Steps.snoc{c:Nat}:∀{a:List Gm}{m:Gm}{f g h:Nat->A5},Steps c a f g->Step c m g h->Steps c (a++[m]) f h
 | _,_,_,_,_,.nil,s=>.cons s .nil
 | _,_,_,_,_,.cons s t,r=>.cons s (Steps.snoc t r)
abbrev Lh (c:Nat)(f:Nat->A5):Prop:=∀w,w<2^c->Fx (f w).1.1 (f w).1.2.1 (f w).1.2.2.1 (f w).1.2.2.2 (f w).2
theorem rJ{v:Int×Int×Int×Int}{h:Int}(o:Fx v.1 v.2.1 v.2.2.1 v.2.2.2 h):∀k,Fx (Bb k v).1 (Bb k v).2.1 (Bb k v).2.2.1 (Bb k v).2.2.2 h
 | 0=>o
 | k+1=>by
  have:=rJ o k;refine⟨this.nn,?_⟩;have o:h=0\/(Bb k v).1%2=1\/(Bb k v).2.1%2=1\/(Bb k v).2.2.1%2=1\/(Bb k v).2.2.2%2=1:=this.odd;show h=0\/(-(Bb k v).2.2.2)%2=1\/(Bb k v).1%2=1\/(Bb k v).2.1%2=1\/(Bb k v).2.2.1%2=1;omega
variable{c:Nat}{m:Gm}{f g:Nat->A5}
theorem Step.ams(hc:c<=6)(ok:m.Ok c)(s:Step c m f g)(a:Lh c f):Lh c g:=by
 intro w b;cases m with
 | mv v =>
  have e:g w=Bk (f (v.to w)) (v.sp w:Nat):=s w b;rw[e];exact rJ (a _ (Mv.to_lt hc ok b)) _
 | mix a =>
  have e:Cq f a w (g w):=s w b;unfold Cq at e;split at e
  ·exact e.amt
  ·exact e.amt
theorem qL(x:A5){k:Nat}(h:k<=8):Bk (Bk x (k:Nat)) ((8-k:Nat):Int)=x:=by
 obtain⟨⟨a,b,c,d⟩,g⟩:=x;have:k=0\/k=1\/k=2\/k=3\/k=4\/k=5\/k=6\/k=7\/k=8:=by omega
 rcases this with rfl | rfl | rfl | rfl | rfl | rfl | rfl | rfl | rfl<;>simp[Bk,Bb]
theorem Y2y{k h:Nat->A5}(hc:c<=6)(ok:m.Ok c)(af:Lh c f)(s:Step c m f g)(e:∀w,w<2^c->k w=g w)(t:Step c m.back k h):∀w,w<2^c->h w=f w:=by
 intro w i;cases m with
 | mix a =>
  have ok:a<c:=ok;have s':∀w,w<2^c->Cq f a w (g w):=s;have t':∀w,w<2^c->Cq k a w (h w):=t;have o:∀u,u<2^c->u / 2^a%2=0->h u=f u/\h (u+2^a)=f (u+2^a):=λu n hb=>by
   obtain⟨_,_,l2,z⟩:=vN hc ok n hb;have y:=s' u n;have x:=s' (u+2^a) l2;have p:=t' u n;have r:=t' (u+2^a) l2;unfold Cq at y x p r;rw[if_pos hb]at y p;rw[if_neg (by omega),Nat.add_sub_cancel]at x r;rw[e u n,e _ l2]at p r;exact X3p (af u n) (af _ l2) y x p r
  by_cases hb:w / 2^a%2=0
  ·exact(o w i hb).1
  ·obtain⟨_,_,l2,z⟩:=xO hc ok i hb;have:=(o (w-2^a) (Vv (Nat.sub_le _ _) i) z).2;rw[Nat.sub_add_cancel l2]at this;exact this
 | mv v =>
  have s':∀w,w<2^c->g w=Bk (f (v.to w)) (v.sp w:Nat):=s;cases v with
  | turn a kk =>
   have ok:a<c/\1<=kk/\kk<=7:=ok;have t':∀w,w<2^c->h w=Bk (k w) ((if w&&&2^a=2^a then 8-kk else 0:Nat):Int):=t;have j:g w=Bk (f w) ((if w&&&2^a=2^a then kk else 0:Nat):Int):=s' w i;rw[t' w i,e w i,j];by_cases q:w&&&2^a=2^a
   ·rw[if_pos q,if_pos q];exact qL _ (by omega)
   ·rw[if_neg q,if_neg q];rfl
  | pair a b =>
   have t':∀w,w<2^c->h w=Bk (k w) ((if w&&&(2^a ||| 2^b)=(2^a ||| 2^b) then 4 else 0:Nat):Int):=t;have j:g w=Bk (f w) ((if w&&&(2^a ||| 2^b)=(2^a ||| 2^b) then 4 else 0:Nat):Int):=s' w i;rw[t' w i,e w i,j];by_cases q:w&&&(2^a ||| 2^b)=(2^a ||| 2^b)
   ·rw[if_pos q];exact qL _ (by decide)
   ·rw[if_neg q];rfl
  | flip a =>
   have t':∀w,w<2^c->h w=k ((Mv.flip a).to w):=t;have l:=Mv.to_lt (v:=.flip a) hc ok i;have j:g ((Mv.flip a).to w)=f ((Mv.flip a).to ((Mv.flip a).to w)):=s' _ l;rw[t' w i,e _ l,j,Mv.to_to (v:=.flip a) hc ok i]
  | iff a b =>
   have t':∀w,w<2^c->h w=k ((Mv.iff a b).to w):=t;have l:=Mv.to_lt (v:=.iff a b) hc ok i;have j:g ((Mv.iff a b).to w)=f ((Mv.iff a b).to ((Mv.iff a b).to w)):=s' _ l;rw[t' w i,e _ l,j,Mv.to_to (v:=.iff a b) hc ok i]
  | swap a b =>
   have t':∀w,w<2^c->h w=k ((Mv.swap a b).to w):=t;have l:=Mv.to_lt (v:=.swap a b) hc ok i;have j:g ((Mv.swap a b).to w)=f ((Mv.swap a b).to ((Mv.swap a b).to w)):=s' _ l;rw[t' w i,e _ l,j,Mv.to_to (v:=.swap a b) hc ok i]
  | cross a b d =>
   have t':∀w,w<2^c->h w=k ((Mv.cross a b d).to w):=t;have l:=Mv.to_lt (v:=.cross a b d) hc ok i;have j:g ((Mv.cross a b d).to w)=f ((Mv.cross a b d).to ((Mv.cross a b d).to w)):=s' _ l;rw[t' w i,e _ l,j,Mv.to_to (v:=.cross a b d) hc ok i]
theorem lq{c:Nat}(hc:c<=6):∀{ms:List Gm}{f g h:Nat->A5},(∀m∈ms,m.Ok c)->Lh c f->Steps c ms f g->Steps c (ms.reverse.map Gm.back) g h->∀w,w<2^c->h w=f w
 | [],f,g,h,_,_,s,t=>by
  cases s;cases t;exact λw _=>rfl
 | m::ms,f,g,h,ok,af,.cons s r,t=>by
  rw[List.reverse_cons,Dn]at t;obtain⟨k,t1,t2⟩:=t.append;have a:=ok m (.head _);have e:=lq hc (λx b=>ok x (.tail _ b)) (s.ams hc a af) r t1;cases t2 with
  | cons u v =>
   cases v;exact Y2y hc a af s e u
theorem rM(ok:m.Ok c):m.back.Ok c:=by
 cases m with
 | mix a=>exact ok
 | mv v =>
  cases v with
  | turn a k =>
   have ok:a<c/\1<=k/\k<=7:=ok;exact⟨ok.1,by omega,by omega⟩
  | flip a=>exact ok
  | iff a b=>exact ok
  | pair a b=>exact ok
  | swap a b=>exact ok
  | cross a b d=>exact ok
noncomputable abbrev backs (ms:List Gm):List Gm:=ms.reverse.map Gm.back
variable{ms:List Gm}
theorem uQ(h:∀m∈ms,m.Ok c):∀m∈backs ms,m.Ok c:=λm b=>by
 obtain⟨x,a,rfl⟩:=Hu.mp b;exact rM (h x (List.mem_reverse.mp a))
theorem Gm.fits(h:m.Ok c):Fits m.nm m.ns c:=by
 cases m with
 | mv v=>exact Mv.fits h
 | mix a =>
  have e:named "mix" [(a:Int)]=[(a:Int)]:=by unfold named;rw[if_neg (by decide +kernel)]
  have h:a<c:=h;exact⟨⟨(show numAt NB "mix"=some (.int ((1:Nat):Int)) by decide +kernel),(show 1<=3 by decide),λz=>absurd (show ("mix":Str)="turn" from z) (by decide +kernel)⟩,by show ∀x∈named "mix" [(a:Int)],_;rw[e];intro b hb;rw[Ko.mp hb];omega,by show (named "mix" [(a:Int)]).Nodup;rw[e];simp⟩
variable{n:Nat}
theorem Qc{k:Int}(o:Em n M x):Em n M (Bk x k):=mO o _
variable{H:Hp}{l:Y0}{ps:U3}
theorem Bx.bo{K:U0}{m:Nat}(b:Bx K H l ps f c n m):Bo K H l ps f c:=⟨b.lst,b.len,b.vals⟩
def qK (K:U0):Sp:=λvs H Q _=>∃(l p:Y0) (ps:U3) (f:Nat->A5) (c n M:Nat) (m:Gm),vs=[.ref l,.ref p]/\H p=some (Gy m.nm m.ns)/\m.Ok c/\Bx K H l ps f c n M/\c<=6/\n<=450000/\M<=10000 /\
 ∀(r:Y0) (H':Hp) (qs:U3) (g:Nat->A5),H r=none->Same H H'->Bx K H' r qs g c (n+2*M+3) (M+1)->Step c m f g->Q (.ref r) H'
section
variable {P:U8}{w:W1}{K:U0}{mg:U4}{base:Heap}{k:Nat}{h:Heap}
theorem Y4k(F:Aa K "turned" (top 64) .none)(X:K.In h)(G:Ng h mg)(B:Bs mg)(cI:Ag P w K mg base k "check_move" ["move","cells"] Uo)(cD:Ag P w K mg base k "cells_of" ["board"] (Qf K))(eN:Ag P w K mg base k "mixed" ["board","bit"] (um K))(cY:Ag P w K mg base k "spun_where" ["board","bits","k"] (u0 K))
  (dD:Ag P w K mg base k "word_behind" ["word","move"] ug):Ag P w K mg base (k+1) "turned" ["board","move"] (qK K):=by
 refine F.cal X G ["board","move"] λnd H vs Q E A h=>?_;obtain⟨l,p,ps,g,c,n,M,m,rfl,hp,ok,BD,c6,n4,m1,D⟩:=h;have p6:=HJ c6;have x:=BD.bo;have R:∀a:Nat,(1:Int)*2^((a:Int)).toNat=((2^a:Nat):Int):=λa=>ipow a
 refine⟨_,(@Ak _ _ _ _ _ (Hg (Av cI A rfl (Ab (pv 1) (Ab (Av cD A rfl (Ab (pv 0) Ae)) Ae))))
  (@Ak _ _ _ _ _ (CQ (Bq Di (Al Az (pv 1) Ad (λ_ _=>rfl)) Cg (Ac _))
   (@Aj _ _ _ (Ay (Av eN A rfl (Ab (pv 0) (Ab (Aq K3 Ad (Al Az (pv 1) Ad (λ_ _=>rfl))) Ae)))))
   CT)
  (@Ak _ _ _ _ _ (CQ (Bq Di (Al Az (pv 1) Ad (λ_ _=>rfl)) Cg (Ac _))
   (@Aj _ _ _ (Ay (Av cY A rfl (Ab (pv 0) (Ab (Aq K3 Ad (Al Az (pv 1) Ad (λ_ _=>rfl))) (Ab (Al Az (pv 1) Ad (λ_ _=>rfl)) Ae))))))
   CT)
  (@Ak _ _ _ _ _ (CQ (Bq Di (Al Az (pv 1) Ad (λ_ _=>rfl)) Cg (Ac _))
   (@Aj _ _ _ (Ay (Av cY A rfl (Ab (pv 0) (Ab (Aq Nm (Aq K3 Ad (Al Az (pv 1) Ad (λ_ _=>rfl))) (Aq K3 Ad (Al Az (pv 1) Ad (λ_ _=>rfl)))) (Ab Ad Ae))))))
   CT)
  (@Aj _ _ _ (Ay (GD rfl (BZ.of (Nc:=["word","board","move"]) (mp:=[none,some 0,some 1]) (by kernel_rfl)) (Mq rfl B.range (Ab (Cm IW rfl B.len Fz (Ab (pv 0) Ae)) Ae)) (λ_ _ _ _=>(Ck (i:=0) (show (["word","board","move"]:W0).Nodup by decide +kernel) rfl (Or.inl rfl))) (λ_ _ _ _=>(Al lF (pv 1) (Av dD A rfl (Ab (pv 0) (Ab (pv 2) Ae))) (λ_ _=>rfl)))))))))),?_⟩
 try dsimp only[Bg]
 refine⟨_,U,_,U,l,_,c,U,Af.of x.lst,by rw[BJ,x.len],c6,p,m.nm,m.ns,c,U,hp,Gm.fits ok,λH1 f=>?_⟩;have SP:Ah K H1 p (.str m.nm::m.ns.map V.int):=Ah.of (f _ _ hp);have I:=x.same f;have Y:=BD.same f;cases m with
 | mix a =>
  have ac:a<c:=ok;refine⟨_,U,p,_,_,.str "mix",U,U,SP,at0,U,_,U,BX (λ_=>?_) (λz=>absurd rfl z)⟩;refine⟨_,U,_,U,p,_,_,.int a,U,U,SP,U,_,_,U,U,⟨1,N7,by omega,by omega⟩,?_⟩;exact⟨l,ps,g,c,n,M,a,congrArg (λz=>[V.ref l,V.int z]) (R a),Y,c6,ac,n4,m1,λr H2 d y t o J C=>D r H2 d y (f.free t) (f.trans o) J C⟩
 | mv v =>
 have SP:Ah K H1 p (.str v.nm::v.ns.map V.int):=SP;have ok:v.Ok c:=ok;have hp:H p=some (Gy v.nm v.ns):=hp;have W:∀(r:Y0) (H':Hp) (d:U3) (y:Nat->A5),H r=none->Same H H'->Bo K H' r d y c->(∀w,w<2^c->y w=Bk (g (v.to w)) (v.sp w:Nat))->Q (.ref r) H':=λr H' d y h1 h2 Z h4 =>
  D r H' d y h1 h2 ⟨Z.lst,Z.len,Z.vals,λi hi=>by rw[h4 i hi];exact(Qc (BD.ok _ (Mv.to_lt c6 ok hi))).mono (by omega) (by omega)⟩ h4
 refine⟨_,U,p,_,_,.str v.nm,U,U,SP,at0,U,_,U,BX (λz=>absurd (V.str.inj z) (X3i v)) (λ_=>?_)⟩;refine⟨_,U,p,_,_,.str v.nm,U,U,SP,at0,U,_,U,BX (λz=>?_) (λzt=>?_)⟩
 ·obtain⟨a,kk,rfl⟩:=X3j (V.str.inj z);have ok:a<c/\1<=kk/\kk<=7:=ok;refine⟨_,U,_,U,p,_,_,.int a,U,U,SP,U,_,_,U,U,⟨1,N7,by omega,by omega⟩,_,U,p,_,_,.int kk,U,U,SP,U,?_⟩;refine⟨l,ps,g,c,2^a,kk,(by show [V.ref l,V.int (1*2^((a:Int)).toNat),V.int (kk:Int)]=_;rw[R]),I,c6,λr H2 d y t o J C=>W r H2 d y (f.free t) (f.trans o) J λw O=>?_⟩;rw[C w O];show _=Bk (g w) ((if w&&&2^a=2^a then kk else 0:Nat):Int);split
  ·rfl
  ·rfl
 refine⟨_,U,p,_,_,.str v.nm,U,U,SP,at0,U,_,U,BX (λz=>?_) (λzp=>?_)⟩
 ·obtain⟨a,b,rfl⟩:=X3k (V.str.inj z);have ok:a<c/\b<c/\a≠b:=ok;refine⟨_,U,_,U,p,_,_,.int a,U,U,SP,U,_,_,U,U,⟨1,N7,by omega,by omega⟩,_,U,p,_,_,.int b,U,U,SP,U,_,_,U,U,⟨1,N7,by omega,by omega⟩,_,_,U,U,?_⟩;refine⟨l,ps,g,c,2^a ||| 2^b,4,(by show [V.ref l,V.int (Builtin.bitOr (1*2^((a:Int)).toNat) (1*2^((b:Int)).toNat)),V.int 4]=_;rw[R,R,Jr]),I,c6,λr H2 d y t o J C=>W r H2 d y (f.free t) (f.trans o) J λw O=>?_⟩;rw[C w O];show _=Bk (g w) ((if w&&&(2^a ||| 2^b)=(2^a ||| 2^b) then 4 else 0:Nat):Int);split
  ·rfl
  ·rfl
 have nt:v.nm≠"turn":=λe=>zt (by rw[e]);have np:v.nm≠"pair":=λe=>zp (by rw[e]);have L:(((ps.map V.ref).length:Nat):Int).toNat=2^c:=by rw[BJ,x.len,J2]
 have SL:Af K H1 l (ps.map V.ref):=Af.of I.lst;refine⟨_,U,l,_,U,.inl SL,_,U,by rw[BJ,x.len];omega,by rw[BJ,x.len];omega,λacc s=>?_⟩;rw[L];refine Ut (n:=2^c) (fr:=[some (.ref l),some (.ref p)]) (λi ys H'=>∃(d:U3) (y:Nat->A5),Same H1 H'/\H' acc=some (.lst ys)/\ys=d.map V.ref/\d.length=i/\BR K H' d y/\∀j,j<i->y j=g (v.to j)) (Jy p6)
  ⟨[],λ_=>((0,0,0,0),0),Ax s _,Ao,U,U,(λ_ _ z=>by cases z),λj hj=>absurd hj (Oc _)⟩ ?_ ?_
 ·rintro i ys H2 N hi hy ⟨d,y,o,T,rfl,S,v2,u⟩ kN;refine⟨_,U,_,U,_,U,i,p,v,c,(by show [V.int (0+(i:Int)),V.ref p]=_;rw[Rj]),o _ _ (f _ _ hp),ok,c6,nt,np,λH3 S3=>?_⟩;obtain⟨q,_,hq,aq⟩:=((I.same o).same S3).at (Mv.to_lt c6 ok hi);refine⟨l,_,_,_,U,U,Af.of (S3 _ _ (o _ _ I.lst)),aq,?_⟩;refine kN (.ref q) H3 (S3 _ _ T) ⟨d++[q],λj=>if j=d.length then g (v.to i) else y j,Et (o.trans S3) s,Ao,by rw[Dn];rfl,by simp[S],Ml (xs:=d.map V.ref) (Mr v2 S3 hq) (S3 _ _ T),λj hj=>?_⟩;show (if j=d.length then g (v.to i) else y j)=_;by_cases e:j=d.length
  ·rw[if_pos e,e,S]
  ·rw[if_neg e];exact u j (by omega)
 ·rintro ys H2 hy ⟨d,y,o,T,rfl,S,v2,u⟩;refine W acc H2 d y (f.free s) (f.trans o) ⟨T,S,v2⟩ λw O=>?_;rw[u w O,X1s nt np w];rfl
def G6 (H:Hp)(ps:U3)(ms:List Gm):Prop:=VN H ps (ms.map Gm.mm)
theorem G6.length(h:G6 H ps ms):ps.length=ms.length:=by
 have:=Paired.length h;rw[BJ]at this;exact this
theorem G6.get{H:Hp}:∀{ps:U3}{ms:List Gm}{i:Nat}{p:Y0},G6 H ps ms->ps[i]?=some p->∃m,ms[i]?=some m/\H p=some (Gy m.nm m.ns)
 | p'::ps,m::ms,0,p,.cons a r,h=>by
  have:p'=p:=by simpa using h
  subst this;exact⟨m,U,a⟩
 | p'::ps,m::ms,i+1,p,.cons a r,h=>by
  obtain⟨d,b,c⟩:=G6.get (ps:=ps) (ms:=ms) (i:=i) (p:=p) r (by simpa using h);exact⟨d,b,c⟩
theorem G6.snoc{p:Y0}(h:G6 H ps ms)(e:H p=some (Gy m.nm m.ns)):G6 H (ps++[p]) (ms++[m]):=by
 unfold G6;rw[Dn];exact Paired.snoc h e
theorem G6.upd{xs ys:List V}(h:G6 H ps ms)(hl:H l=some (.lst xs)):G6 (upd H l (.lst ys)) ps ms :=
 Paired.imp' (λ_ _ c=>by rw[CK (Gg c hl (by intro z;cases z))];exact c) h
structure Rw (H:Hp) (l:Y0) (ps:U3) (ms:List Gm) (c:Nat):Prop where
 lst:H l=some (.lst (ps.map V.ref))
 mvs:G6 H ps ms
 ok:∀m∈ms,m.Ok c
 len:ms.length<=200
def Gj (K:U0):Sp:=λvs H Q _=>∃(l lr:Y0) (ps rp:U3) (f:Nat->A5) (c n M:Nat) (ms:List Gm),vs=[.ref l,.ref lr]/\Rw H lr rp ms c/\Bx K H l ps f c n M/\c<=6/\M<=300/\n<=210000 /\
 ∀(r:Y0) (H':Hp) (qs:U3) (g:Nat->A5),H r=none->Same H H'->Bx K H' r qs g c (n+1010*ms.length) (M+ms.length)->Steps c ms f g->Q (.ref r) H'
theorem X6g(F:Aa K "run" (top 71) .none)(X:K.In h)(G:Ng h mg)(B:Bs mg)(eM:Ag P w K mg base k "turned" ["board","move"] (qK K)):Ag P w K mg base (k+1) "run" ["board","row"] (Gj K):=by
 refine F.cal X G ["board","row","behind","move"] λA H vs Q E D h=>?_;obtain⟨l,lr,ps,N,g,c,n,M,ms,rfl,d,v,c6,M3,n2,S⟩:=h;have O:=d.len;have lps:=d.mvs.length;have L:Af K H lr (N.map V.ref):=Af.of d.lst
 refine⟨_,(@Ak _ _ _ _ _ (@Bd _ _ 2 _ _ _ _ A rfl (Or.inl rfl) (IV mD rfl B.list Ph (Ab (pv 0) Ae)) rfl (.inl rfl))
  (@Ak _ _ _ _ _ (Jv PassesOwn.never rfl (JC (pv 1)) (Ck (i:=3) A rfl (Or.inl rfl))
   (@Aj _ _ _ (@Bd _ _ 2 _ _ _ _ A rfl (Or.inl rfl) (Av eM D rfl (Ab (pv 2) (Ab (pv 3) Ae))) rfl (.inl rfl))))
  (@Aj _ _ _ (Ay (pv 2))))),?_⟩
 try dsimp only[Bg]
 refine⟨_,U,l,_,U,.inl (Af.of v.lst),λW s=>?_⟩;have J:=Ax s (.lst (ps.map V.ref))
 refine⟨_,U,lr,U,⟨_,J.seq L⟩,Ur (K:=K) (a:=lr) (xs:=N.map V.ref) (λi σ H'=>Same H H'/\∃(b:Y0) (o:U3) (y:Nat->A5) (C:Option V),H b=none/\Bx K H' b o y c (n+1010*i) (M+i)/\Steps c (ms.take i) g y/\σ=[some (.ref l),some (.ref lr),some (.ref b),C])
  ⟨J,W,ps,g,none,s,⟨Ao,v.len,v.vals.same J,v.ok⟩,by rw[List.take_zero];exact .nil,U⟩ (λi σ H' _ e=>e.1.seq L) ?_ ?_⟩
 ·rintro i x σ H1 I ⟨q,b,o,y,C,hb,u,f,rfl⟩;have a0:i<ms.length:=by
   have:=(Fb.mp I).1;rw[BJ]at this;omega
  rw[Dw]at I;obtain⟨p,hp,rfl⟩:=GZ.mp I;obtain⟨m,R,p0⟩:=d.mvs.get hp;refine⟨_,U,_,U,b,p,o,y,c,_,_,m,U,q _ _ p0,d.ok m (Il R),u,c6,by omega,by omega,λr H2 Z z D T t st=>?_⟩;refine⟨q.trans T,r,Z,z,_,q.free D,⟨t.lst,t.len,t.vals,λj Y=>(t.ok j Y).mono (by omega) (by omega)⟩,?_,U⟩;rw[Km,R];exact f.snoc st
 ·rintro σ H1 ⟨q,b,o,y,C,hb,u,f,rfl⟩;rw[BJ,lps]at u f;rw[Lw]at f;exact⟨_,U,S b H1 o y hb q u f⟩
theorem zj:((List.range 7).all λc=>(List.range (2^c)).all λx=>decide (Builtin.Int.intBits ((x:Nat):Int)<=c))=true:=by decide +kernel
theorem X4f{x:Nat}(h:c<=6)(hx:x<2^c):Builtin.Int.intBits ((x:Nat):Int)<=c:=Rp (DR (DR zj (by omega:c<7)) hx)
def FP:Sp:=λvs H Q _=>∃x c:Nat,vs=[.int x,.int c]/\c<=6/\x<2^c/\Q (.bl true) H
noncomputable def st (x w:Nat):A5:=if w=x then ((1,0,0,0),0) else ((0,0,0,0),0)
theorem K1(x w:Nat):Em 100 40 (st x w):=by
 unfold st;split
 ·exact⟨⟨s_1,s_0,s_0,s_0⟩,⟨Ln 0,.inl rfl⟩,Ni⟩
 ·exact⟨⟨s_0,s_0,s_0,s_0⟩,⟨Ln 0,.inl rfl⟩,Ni⟩
def kY (K:U0):Sp:=λvs H Q _=>∃c x:Nat,vs=[.int c,.int x]/\1<=c/\c<=6/\x<2^c/\∀(r:Y0) (H':Hp) (qs:U3),H r=none->Same H H'->Bx K H' r qs (st x) c 100 40->Q (.ref r) H'
theorem Ea:Ar ["thing","cells"] ["thing","cells"] (Bh (top 33)):=fS
theorem lV(F:Aa K "is_word" (top 33) .none)(X:K.In h)(G:Ng h mg)(c5:Ag P w K mg base k "is_whole" ["thing"] K5):Ag P w K mg base (k+1) "is_word" ["thing","cells"] FP:=by
 refine F.cal X G _ (S:=Ea) λc H vs Q E a h=>?_;obtain⟨x,N,rfl,c6,lt,q⟩:=h
 refine⟨_,(@Ak _ _ _ _ _ (CQ (E_ (PW.pt (O9 (Dv (Av c5 a rfl (Ab (pv 0) Ae))) (QW (Dv (Av c5 a rfl (Ab (pv 1) Ae)))))))
   (@Aj _ _ _ (Ay Ji))
   CT)
  (@Aj _ _ _ (Ay (Nr (JB VG (pv 0) Ad (Ac _)) (Lb (JB mY (XM V1 Ry V7 Wm (pv 0)) (pv 1) (Ac _))))))),?_⟩
 try dsimp only[Bg]
 refine⟨_,U,_,U,_,U,DQ ⟨_,U,_,U,_,U,Bc ?_⟩⟩;refine⟨_,U,_,_,U,U,_,U,BX (λ_=>?_) (λz=>absurd (show (x:Int)>=0 by omega) z)⟩;refine⟨_,U,U,_,U,U,_,U,_,_,U,U,?_⟩;have b:=X4f c6 lt;show Q (.bl (decide (((Builtin.Int.intBits ((x:Nat):Int):Nat):Int)<=(N:Int)))) H;rw[Jc (by omega)];exact q
def WT:Sp:=λvs H Q _=>∃c x:Nat,vs=[.int c,.int x]/\1<=c/\c<=6/\x<2^c/\Q .non H
theorem _3{tM:Tok}(gM:mg "MOST_CELLS"=some (.int 6 tM))(F:Aa K "check_beginning" (top 46) .none)(X:K.In h)(G:Ng h mg)(c5:Ag P w K mg base k "is_whole" ["thing"] K5)(cM:Ag P w K mg base k "is_word" ["thing","cells"] FP):Ag P w K mg base (k+1) "check_beginning" ["cells","word"] WT:=by
 refine F.cal X G ["cells","word"] λe H vs Q E a h=>?_;obtain⟨c,x,rfl,c1,c6,d,b⟩:=h
 refine⟨_,(@Ak _ _ _ _ _ (CQ (PW.pt (Fv (E_ (Dv (Av c5 a rfl (Ab (pv 0) Ae)))) (Fv (Bq Nk (pv 0) Ad (Ac _)) (Iw (Bq VH (pv 0) (Jw (v:=.int 6) rfl gM ⟨tM,U⟩) (Ac _))))))
   (@Aj _ _ _ Gh)
   CT)
  (@Aj _ _ _ (CQ (E_ (Dv (Av cM a rfl (Ab (pv 1) (Ab (pv 0) Ae)))))
   (@Aj _ _ _ Gh)
   CT))),?_⟩
 try dsimp only[Bg]
 refine⟨_,U,_,U,_,U,Bc ⟨_,U,_,_,U,U,_,U,BX (λz=>absurd z (by omega)) (λ_=>⟨_,U,_,_,U,U,_,U,BX (λz=>absurd z (by omega)) (λ_=>?_)⟩)⟩⟩;exact⟨_,U,_,U,x,c,U,c6,d,_,U,Bc b⟩
theorem zK{D:Y0}{oc:W2}{od:W5}{sl:W4}{t0:Tok}(l:K.lookup D=some ⟨oc,od,.seq #[.int 0 t0] n,sl⟩):J4 K "start" (top 45) (.ref D) ["cells","word"]:=by
 intro kV d f g e ct s us X c;match us,c with
 | [a,b],_=>exact BindsTo.of_defaults rfl (X _ _ l) rfl rfl rfl
theorem Y7v{dV:W2}(F:Aa K "start" (top 45) dV)(bi:J4 K "start" (top 45) dV ["cells","word"])(X:K.In h)(G:Ng h mg)(B:Bs mg){aO aZ:Y0}(gO:mg "ONE"=some (.ref aO))(gZ:mg "NOUGHT"=some (.ref aZ))(kO:∀H,Ce K H aO ((1,0,0,0),0))(kZ:∀H,Ce K H aZ ((0,0,0,0),0))
  (cB:Ag P w K mg base k "check_beginning" ["cells","word"] WT):Ag P w K mg base (k+1) "start" ["cells","word"] (kY K):=by
 refine F.cal X G ["cells","word"] (bi:=bi) λI H vs Q E o h=>?_;obtain⟨c,x,rfl,c1,c6,y,s⟩:=h;have t:=HJ c6;have m:(1:Int)*2^((c:Int).toNat)=((2^c:Nat):Int):=ipow c;have D:(1*2^((c:Int).toNat):Int).toNat=2^c:=by rw[m,J2]
 refine⟨_,(@Ak _ _ _ _ _ (Hg (Av cB o rfl (Ab (pv 0) (Ab (pv 1) Ae))))
  (@Aj _ _ _ (Ay (GD rfl (BZ.of (Nc:=["place","word"]) (mp:=[none,some 1]) (by kernel_rfl)) (Mq rfl B.range (Ab (Aq K3 Ad (pv 0)) Ae)) (λ_ _ _ _=>(Ck (i:=0) (show (["place","word"]:W0).Nodup by decide +kernel) rfl (Or.inl rfl))) (λ_ _ _ _=>(Lf (Bq Di (pv 0) (pv 1) (Ac _)) (Jw (v:=.ref aO) rfl gO rfl) (Jw (v:=.ref aZ) rfl gZ rfl))))))),?_⟩
 try dsimp only[Bg]
 refine⟨_,U,_,U,c,x,U,c1,c6,y,?_⟩;refine⟨_,U,_,_,U,U,⟨1,N7,by omega,by omega⟩,_,U,by rw[m];omega,by rw[m];omega,λacc b=>?_⟩;rw[D];refine Ut (n:=2^c) (fr:=[some (.int x)]) (λi ys H'=>∃a:List Addr,Same H H'/\H' acc=some (.lst ys)/\ys=a.map V.ref/\a.length=i/\BR K H' a (st x)) (Jy t)
  ⟨[],Ax b _,Ao,U,U,(λ_ _ z=>by cases z)⟩ ?_ ?_
 ·rintro i ys H2 N hi A ⟨a,l,g,rfl,f,v2⟩ C;have d:∀(r:Y0),Ce K H2 r (st x i)->N (.ref r) H2:=λr o=>by
   refine C (.ref r) H2 g ⟨a++[r],Et l b,Ao,by rw[Dn];rfl,by simp[f],?_⟩;have:=Ml (ys:=a.map V.ref++[.ref r]) (xs:=a.map V.ref) (Mr v2 (Same.refl _) o) g;intro j p u;have q:=this j p u;have e:(if j=a.length then st x i else st x j)=st x j:=by
    by_cases e:j=a.length
    ·rw[if_pos e,e,f]
    ·rw[if_neg e]
   rw[<-e];exact q
  refine⟨_,U,_,U,U,_,U,G4 (λe=>d aO ?_) (λe=>d aZ ?_)⟩
  ·have:st x i=((1,0,0,0),0):=by unfold st;rw[if_pos (by omega)]
   rw[this];exact kO _
  ·have:st x i=((0,0,0,0),0):=by unfold st;rw[if_neg (by omega)]
   rw[this];exact kZ _
 ·rintro ys H2 A ⟨a,l,g,rfl,f,v2⟩;exact s acc H2 a b l ⟨g,f,v2,λi _=>K1 x i⟩
end
end Ai
namespace En
namespace Mv
end Mv
open Mv
end En
set_option maxHeartbeats 1000000
namespace Jm
open En En.Mv
end Jm
namespace G7
open En En.Mv Jm Pc
abbrev Mk:=Nat×Nat×Nat
end G7
namespace Jm
open En En.Mv
end Jm
set_option maxHeartbeats 4000000
namespace L2
section
variable {X:Cx}
end
end L2
namespace L2
section
variable {prog:U8}{w:W1}{A:W7}{E:U2}{s:U7}{l:Y0}
end
section
variable {X:Cx}
end
end L2
namespace DG
open L2 Ba En
open Ai (top Bs)
theorem Wf{H H':Hp}{l:Y0}(s:Same H H')(h:H' l=none):H l=none:=by
 cases e:H l with
 | none=>rfl
 | some o=>rw[s _ _ e]at h;cases h
end DG
namespace DG
open L2 Ba Am En
open Ai (top Bs va vb vc vd Gm Step Steps Lh Mix Cq)
end DG
namespace DG
open L2 Ba Am Pc En
open Ai (top Bs)
open G7 (Mk)
noncomputable abbrev ZG (m:Mk):List V:=[.int (m.1:Nat),.int (m.2.1:Nat),.int (m.2.2:Nat)]
structure nW (c:Nat) (m:Mk):Prop where
 k:m.1<4
 f:m.2.1<2^c
 s:m.2.2<2^c
variable{x y z:V}
theorem k0:Ez [x,y,z] 0=some x:=rfl
theorem k1:Ez [x,y,z] 1=some y:=rfl
theorem k2:Ez [x,y,z] 2=some z:=rfl
section
variable {P:U8}{w:W1}{K:U0}{mg:U4}{base:Heap}{k:Nat}{h:Heap}
end
end DG
namespace DG
open L2 Ba Am Pc En
open Ai (top Bs Ig)
open G7 (Mk)
section
variable {P:U8}{w:W1}{K:U0}{mg:U4}{base:Heap}{k:Nat}{h:Heap}
end
end DG
namespace DG
open L2 Ba Am Pc En
open Ai (top Bs)
open G7 (Mk)
section
variable {P:U8}{w:W1}{K:U0}{mg:U4}{base:Heap}{k:Nat}{h:Heap}
end
end DG
namespace DG
open L2 Ba Am Pc En
open Ai (top Bs Bx BR Ce QZ Mr Ml Lh Qc)
open G7 (Mk)
noncomputable abbrev layW (m:Mk)(f:Nat->A5)(w:Nat):A5:=Bk (f (w^^^m.2.1)) ((2*m.1+4*pc ((w^^^m.2.1)&&&m.2.2):Nat):Int)
def tY (K:U0):Sp:=λvs H Q _=>∃(l p:Y0) (ps:U3) (f:Nat->A5) (c n M wd:Nat) (m:Mk),vs=[.ref l,.int wd,.ref p]/\Bx K H l ps f c n M/\wd<2^c/\Ah K H p (ZG m)/\nW c m /\
 ∀(r:Y0) (H':Hp),Same H H'->Ce K H' r (Bk (f wd) ((2*m.1+4*pc (wd&&&m.2.2):Nat):Int))->Q (.ref r) H'
def Ie (K:U0):Sp:=λvs H Q _=>∃(l p:Y0) (ps:U3) (f:Nat->A5) (c n M:Nat) (m:Mk),vs=[.ref l,.ref p]/\Bx K H l ps f c n M/\c<=6/\Ah K H p (ZG m)/\nW c m /\
 ∀(r:Y0) (H':Hp) (qs:U3),H r=none->Same H H'->Bx K H' r qs (layW m f) c n M->Q (.ref r) H'
theorem X2n{x y:Nat}:[V.int (Builtin.bitAnd (x:Int) (y:Int))]=[V.int ((x&&&y:Nat):Int)]:=by rw[Jg]
section
variable {P:U8}{w:W1}{K:U0}{mg:U4}{base:Heap}{k:Nat}{h:Heap}
end
end DG
namespace DG
open L2 Ba Am Pc En
open Ai (top Bs Bx BR Ce Lh Qc Steps Gj)
open G7 (Mk)
section
variable {P:U8}{w:W1}{K:U0}{mg:U4}{base:Heap}{k:Nat}{h:Heap}
end
end DG
namespace J8
open Pc
noncomputable def bl (m:Nat):Nat:=if m=0 then 0 else m.log2+1
theorem UJ{m n:Nat}:bl m<=n↔m<2^n:=by
 unfold bl;by_cases h:m=0
 ·subst h;simp[Kh]
 ·rw[if_neg h,<-Nat.log2_lt h];omega
abbrev Ent:=Nat×Nat×Nat
end J8
namespace Bw
open L2 Pc J8
noncomputable def top (i:Nat):Stmt:=PySem.Challenge.pw_spinboard_k93_whole_there_and_back.main.body.getD i (.Pass ⟨0,0,0,0⟩)
structure Bs (mg:U4):Prop where
 isinstance:mg "isinstance"=none
 int:mg "int"=none
 bool:mg "bool"=none
 tuple:mg "tuple"=none
 list:mg "list"=none
 len:mg "len"=none
 range:mg "range"=none
 enumerate:mg "enumerate"=none
 sorted:mg "sorted"=none
 sum:mg "sum"=none
 str:mg "str"=none
 all:mg "all"=none
 any:mg "any"=none
 min:mg "min"=none
 max:mg "max"=none
theorem X4g(m:Nat):Builtin.Int.intBits (m:Int)=bl m:=by
 unfold Builtin.Int.intBits bl;by_cases h:m=0
 ·subst h;rfl
 ·have hb:((m:Int) == 0)=false:=by simpa using h
  rw[hb,if_neg h];simp
noncomputable abbrev T3 (t:Ent):HO:=.tup [.int t.1,.int t.2.1,.int t.2.2]
def FQ:Sp:=λvs H Q _=>∃n:Nat,vs=[.int n]/\Q (.int (pc n)) H
section
variable {P:U8}{w:W1}{K:U0}{mg:U4}{base:Heap}{k:Nat}{h:Heap}
theorem X2x(F:Aa K "ones" (top 32) .none)(X:K.In h)(G:Ng h mg):Ag P w K mg base (k+1) "ones" ["number"] FQ:=by
 refine F.cal X G ["number","many","rest"] λa H vs Q E g h=>?_;obtain⟨n,rfl,q⟩:=h
 refine⟨_,(@Ak _ _ _ _ _ (@Bd _ _ 1 _ _ _ _ a rfl (Or.inl rfl) Ad rfl (.inl rfl))
  (@Ak _ _ _ _ _ (@Bd _ _ 2 _ _ _ _ a rfl (Or.inl rfl) (pv 0) rfl (.inl rfl))
  (@Ak _ _ _ _ _ (lH PassesOwn.never (Bq Jh (pv 2) Ad (Ac _))
   (@Ak _ _ _ _ _ (@Bd _ _ 2 _ _ _ _ a rfl (Or.inl rfl) (Aq LR (pv 2) (Aq G5 (pv 2) Ad)) rfl (.inl rfl))
   (@Aj _ _ _ (@Bd _ _ 1 _ _ _ _ a rfl (Or.inl rfl) (Aq Gu (pv 1) Ad) rfl (.inl rfl)))))
  (@Aj _ _ _ (Ay (pv 1)))))),?_⟩
 try dsimp only[Bg]
 refine⟨_,U,λm σ H'=>H'=H/\∃j r:Nat,m=pc r/\j+pc r=pc n/\σ=[some (.int n),some (.int j),some (.int r)],⟨_,U,0,n,U,Nat.zero_add _,U⟩,?_⟩;rintro m σ H' ⟨rfl,j,r,rfl,d,rfl⟩;refine⟨_,U,U,_,U,Ks (λb=>?_) (λb=>?_)⟩
 ·have c:r≠0:=by omega
  have e:=sZ (r+1) r (by omega) c;refine⟨_,λi H' x=>x,?_⟩;refine⟨_,U,_,U,_,_,U,U,_,_,U,U,?_⟩;refine⟨_,U,_,_,U,U,⟨pc (r&&&(r-1)),by omega,U,j+1,r&&&(r-1),U,by omega,?_⟩⟩;have f:Builtin.bitAnd (r:Int) ((r:Int)-1)=((r&&&(r-1):Nat):Int):=by rw[show (r:Int)-1=((r-1:Nat):Int) by omega,Jg]
  show [some (V.int n),some (V.int ((j:Int)+1)),some (V.int (Builtin.bitAnd (r:Int) ((r:Int)-1)))]=_;rw[f];rfl
 ·have c:r=0:=by omega
  subst c;rw[j_,Nat.add_zero]at d;subst d;exact⟨_,U,q⟩
theorem X9y(x y:Nat):[V.int (Builtin.bitAnd (x:Int) (y:Int))]=[V.int ((x&&&y:Nat):Int)]:=by rw[Jg]
theorem X1m:(0:Int)<2:=by decide
end
end Bw
namespace G8
open Pc J8
abbrev Mk:=Nat×Nat×Nat
end G8
namespace Bw
open L2 Pc J8 G8
noncomputable abbrev L3 (m:Mk):List V:=[.int m.1,.int m.2.1,.int m.2.2]
section
variable {P:U8}{w:W1}{K:U0}{mg:U4}{base:Heap}{k:Nat}{h:Heap}
structure Jl (N:Nat) (m:Mk):Prop where
 q:m.1<4
 f:m.2.1<2^N
 s:m.2.2<2^N
theorem XD(K:U0):PySem.W.kitOne K (.type "tuple") (.type "tuple")=some true:=by unfold PySem.W.kitOne;rw[if_pos (by decide)]
def K5:Sp:=λvs H Q _=>∃i:Int,vs=[.int i]/\Q (.bl true) H
end
end Bw
namespace N5
open Pc J8 G8
end N5
namespace Jo
open Pc J8 G8 N5
def ev (a:Mk):Prop:=(a.1+pc (a.2.1&&&a.2.2))%2=0
end Jo
namespace Bw
open L2 Pc J8 G8 N5
section
variable {P:U8}{w:W1}{K:U0}{mg:U4}{base:Heap}{k:Nat}{h:Heap}
end
end Bw
namespace Bw
open L2 Pc J8 G8 N5
open Jo (ev)
def FP:Sp:=λvs H Q _=>∃x N:Nat,vs=[.int x,.int N]/\x<2^N/\Q (.bl true) H
def KZ:Sp:=λvs H Q _=>∃(p:Y0) (m:Mk) (N:Nat),vs=[.ref p,.int N]/\H p=some (T3 m)/\Jl N m/\Q (.bl true) H
def Ka (K:U0):Sp:=λvs H Q _=>∃(p:Y0) (m:Mk),vs=[.ref p]/\Ah K H p (L3 m)/\ev m/\Q (.bl true) H
def Kc:Sp:=λvs H Q _=>∃(p:Y0) (m:Mk) (N:Nat),vs=[.ref p,.int N]/\H p=some (T3 m)/\Jl N m/\ev m/\Q (.bl true) H
section
variable {P:U8}{w:W1}{K:U0}{mg:U4}{base:Heap}{k:Nat}{h:Heap}
theorem Ea:Ar ["thing","cells"] ["thing","cells"] (Bh (top 33)):=fS
theorem lV(F:Aa K "is_word" (top 33) .none)(X:K.In h)(G:Ng h mg)(c5:Ag P w K mg base k "is_whole" ["thing"] K5):Ag P w K mg base (k+1) "is_word" ["thing","cells"] FP:=by
 refine F.cal X G _ (S:=Ea) λc H vs Q E a h=>?_;obtain⟨x,N,rfl,lt,q⟩:=h
 refine⟨_,(@Ak _ _ _ _ _ (CQ (E_ (PW.pt (O9 (Dv (Av c5 a rfl (Ab (pv 0) Ae))) (QW (Dv (Av c5 a rfl (Ab (pv 1) Ae)))))))
   (@Aj _ _ _ (Ay Ji))
   CT)
  (@Aj _ _ _ (Ay (Nr (JB VG (pv 0) Ad (Ac _)) (Lb (JB mY (XM V1 Ry V7 Wm (pv 0)) (pv 1) (Ac _))))))),?_⟩
 try dsimp only[Bg]
 refine⟨_,U,_,U,_,U,DQ ⟨_,U,_,U,_,U,Bc ?_⟩⟩;refine⟨_,U,_,_,U,U,_,U,BX (λ_=>?_) (λz=>absurd (show (x:Int)>=0 by omega) z)⟩;refine⟨_,U,U,_,U,U,_,U,_,_,U,U,?_⟩;have b:=UJ.mpr lt;rw[X4g];show Q (.bl (decide (((bl x:Nat):Int)<=(N:Int)))) H;rw[Jc (by omega)];exact q
theorem Y4v(F:Aa K "is_mark" (top 34) .none)(X:K.In h)(G:Ng h mg)(B:Bs mg)(c5:Ag P w K mg base k "is_whole" ["thing"] K5)(cM:Ag P w K mg base k "is_word" ["thing","cells"] FP):Ag P w K mg base (k+1) "is_mark" ["thing","cells"] KZ:=by
 refine F.cal X G ["thing","cells"] λd H vs Q c a h=>?_;obtain⟨p,m,N,rfl,hp,ok,q⟩:=h;have SP:Ah K H p (L3 m):=Ah.of hp;have b:=ok.q
 refine⟨_,(@Ak _ _ _ _ _ (CQ (PW.pt (Fv (E_ (Dv (Cm J7 rfl B.isinstance Ik (Ab (pv 0) (Ab (I_ (v:=.ty "tuple") rfl B.tuple OD rfl) Ae))))) (Iw (Bq Jh (Cm IW rfl B.len Fz (Ab (pv 0) Ae)) Ad (Ac _)))))
   (@Aj _ _ _ (Ay Ji))
   CT)
  (@Ak _ _ _ _ _ (CQ (PW.pt (Fv (E_ (Dv (Av c5 a rfl (Ab (Al Az (pv 0) Ad (λ_ _=>rfl)) Ae)))) (Fv (Bq Nk (Al Az (pv 0) Ad (λ_ _=>rfl)) Ad (Ac _)) (Iw (Bq VH (Al Az (pv 0) Ad (λ_ _=>rfl)) Ad (Ac _))))))
   (@Aj _ _ _ (Ay Ji))
   CT)
  (@Aj _ _ _ (Ay (Nr (Av cM a rfl (Ab (Al Az (pv 0) Ad (λ_ _=>rfl)) (Ab (pv 1) Ae))) (Lb (Av cM a rfl (Ab (Al Az (pv 0) Ad (λ_ _=>rfl)) (Ab (pv 1) Ae))))))))),?_⟩
 try dsimp only[Bg]
 refine⟨_,U,_,_,_,true,U,CZ.tup hp,XD K,_,U,Bc ⟨_,U,p,_,U,.inr SP,U,_,U,Ks (λz=>absurd rfl z) (λ_=>?_)⟩⟩;refine⟨_,U,p,_,_,_,U,U,SP,U,_,U,_,U,Bc ⟨_,U,p,_,_,_,U,U,SP,U,_,_,U,U,_,U,BX (λz=>absurd z (by omega)) (λ_=>⟨_,U,p,_,_,_,U,U,SP,U,_,_,U,U,_,U,BX (λz=>absurd z (by omega)) (λ_=>?_)⟩)⟩⟩;exact⟨_,U,p,_,_,_,U,U,SP,U,_,U,m.2.1,N,U,ok.f,_,U,DQ ⟨_,U,p,_,_,_,U,U,SP,U,_,U,m.2.2,N,U,ok.s,q⟩⟩
theorem Y4w(F:Aa K "is_even" (top 35) .none)(X:K.In h)(G:Ng h mg)(cW:Ag P w K mg base k "ones" ["number"] FQ):Ag P w K mg base (k+1) "is_even" ["mark"] (Ka K):=by
 refine F.cal X G ["mark"] λc H vs Q b a h=>?_;obtain⟨p,m,rfl,SP,e,q⟩:=h;refine⟨_,(@Aj _ _ _ (Ay (JB Di (Aq Jj (Aq Gu (Al Az (pv 0) Ad (λ_ _=>rfl)) (Av cW a rfl (Ab (Aq LR (Al Az (pv 0) Ad (λ_ _=>rfl)) (Al Az (pv 0) Ad (λ_ _=>rfl))) Ae))) Ad) Ad (Ac _)))),?_⟩;try dsimp only[Bg]
 refine⟨_,U,p,_,_,_,U,U,SP,U,_,U,p,_,_,_,U,U,SP,U,_,U,p,_,_,_,U,U,SP,U,_,_,U,U,m.2.1&&&m.2.2,X9y _ _,_,_,U,U,_,_,U,U,X1m,U,?_⟩;show Q (.bl (decide (V.int (((m.1:Int)+((pc (m.2.1&&&m.2.2):Nat):Int))%2)=V.int 0))) H;unfold ev at e;rw[Jc (by congr 1;omega)];exact q
theorem _8(F:Aa K "is_even_mark" (top 36) .none)(X:K.In h)(G:Ng h mg)(eE:Ag P w K mg base k "is_mark" ["thing","cells"] KZ)(eD:Ag P w K mg base k "is_even" ["mark"] (Ka K)):Ag P w K mg base (k+1) "is_even_mark" ["thing","cells"] Kc:=by
 refine F.cal X G ["thing","cells"] λc H vs Q b a h=>?_;obtain⟨p,m,N,rfl,hp,ok,e,q⟩:=h;refine⟨_,(@Aj _ _ _ (Ay (Nr (Av eE a rfl (Ab (pv 0) (Ab (pv 1) Ae))) (Lb (Av eD a rfl (Ab (pv 0) Ae)))))),?_⟩;try dsimp only[Bg]
 exact⟨_,U,_,U,p,m,N,U,hp,ok,_,U,DQ ⟨_,U,p,m,U,Ah.of hp,e,q⟩⟩
end
end Bw
namespace L2
section
variable {X:Cx}{pins:U1}{σ:St}{H:Hp}{s:U7}
end
end L2
namespace Bw
open L2 Pc J8 G8 N5
open Jo (ev)
section
variable {P:U8}{w:W1}{K:U0}{mg:U4}{base:Heap}{k:Nat}{h:Heap}
end
end Bw
set_option maxHeartbeats 1000000
namespace DG
open L2 Ba Am Pc En
open Ai (top Bs Bx BR Ce QZ Mr Ml Lh Qc)
open G7 (Mk)
section
variable {P:U8}{w:W1}{K:U0}{mg:U4}{base:Heap}{k:Nat}{h:Heap}
theorem Y7x(F:Aa K "spun_by_mark" (top 50) .none)(X:K.In h)(G:Ng h mg)(cX:Ag P w K mg base k "spun" ["one","k"] (QZ K))(cW:Ag P w K mg base k "ones" ["number"] FQ):Ag P w K mg base (k+1) "spun_by_mark" ["board","word","mark"] (tY K):=by
 refine F.cal X G ["board","word","mark"] λv H vs Q E b h=>?_;obtain⟨l,p,ps,f,c,n,M,a,⟨k,y,s⟩,rfl,d,j,S,o,g⟩:=h;have x:=o.k;obtain⟨q,_,t,u⟩:=d.at j;refine⟨_,(@Aj _ _ _ (Ay (Av cX b rfl (Ab (Al DK (pv 0) (pv 1) (λ_ _=>rfl)) (Ab (Aq Gu (Aq XJ Ad (Al Az (pv 2) Ad (λ_ _=>rfl))) (Aq XJ Ad (Av cW b rfl (Ab (Aq LR (pv 1) (Al Az (pv 2) Ad (λ_ _=>rfl))) Ae)))) Ae))))),?_⟩;try dsimp only[Bg]
 refine⟨_,U,_,U,l,_,_,_,U,U,Af.of d.lst,u,?_⟩;refine⟨_,U,p,_,_,_,U,U,S,k0,_,_,U,U,.inl ⟨by decide,by decide⟩,_,U,_,U,p,_,_,_,U,U,S,k2,_,_,U,U,a&&&s,X2n,_,_,U,U,.inl ⟨by decide,by decide⟩,_,_,U,U,?_⟩;refine⟨q,(f a).1.1,(f a).1.2.1,(f a).1.2.2.1,(f a).1.2.2.2,(f a).2,_,U,t,λr H' m i=>g r H' m ?_⟩;have e:(2*(k:Int)+4*(pc (a&&&s):Int))=((2*k+4*pc (a&&&s):Nat):Int):=by omega
 rw[<-e];exact i
theorem X3a(F:Aa K "laid_on" (top 49) .none)(X:K.In h)(G:Ng h mg)(B:Bs mg)(dA:Ag P w K mg base k "spun_by_mark" ["board","word","mark"] (tY K)):Ag P w K mg base (k+1) "laid_on" ["board","mark"] (Ie K):=by
 refine F.cal X G ["board","mark"] λR H vs Q E D h=>?_;obtain⟨l,p,ps,f,c,n,M,m,rfl,g,c6,S,o,y⟩:=h;have C:=HJ c6;have L:Af K H l (ps.map V.ref):=Af.of g.lst;have s:(((ps.map V.ref).length:Nat):Int).toNat=2^c:=by rw[BJ,g.len,J2]
 refine⟨_,(@Aj _ _ _ (Ay (GD rfl (BZ.of (Nc:=["word","board","mark"]) (mp:=[none,some 0,some 1]) (by kernel_rfl)) (Mq rfl B.range (Ab (Cm IW rfl B.len Fz (Ab (pv 0) Ae)) Ae)) (λ_ _ _ _=>(Ck (i:=0) (show (["word","board","mark"]:W0).Nodup by decide +kernel) rfl (Or.inl rfl))) (λ_ _ _ _=>(Av dA D rfl (Ab (pv 1) (Ab (Aq Ue (pv 0) (Al X3w (pv 2) Ad (λ_ _=>rfl))) (Ab (pv 2) Ae)))))))),?_⟩;try dsimp only[Bg]
 refine⟨_,U,l,_,U,.inl L,_,U,by rw[BJ,g.len];omega,by rw[BJ,g.len];omega,λacc b=>?_⟩;rw[s];refine Ut (n:=2^c) (fr:=[some (.ref l),some (.ref p)]) (λi ys H'=>∃a:List Addr,Same H H'/\H' acc=some (.lst ys)/\ys=a.map V.ref/\a.length=i/\BR K H' a (layW m f)) (Jy C)
  ⟨[],Ax b _,Ao,U,U,(λ_ _ z=>by cases z)⟩ ?_ ?_
 ·rintro i ys H2 N hi J ⟨a,d,v,rfl,u,v2⟩ O;refine⟨_,U,_,U,_,U,p,_,_,_,U,U,d.tup S,k1,_,_,U,U,_,U,l,p,ps,f,c,n,M,i^^^m.2.1,m,?_,g.same d,Ym hi o.f,d.tup S,o,λr A S3 x=>?_⟩
  ·show [V.ref l,V.int (Builtin.bitXor (0+(i:Int)) (m.2.1:Nat)),V.ref p]=_;rw[Rj,O6]
  ·refine O (.ref r) A (S3 _ _ v) ⟨a++[r],Et (d.trans S3) b,Ao,by rw[Dn];rfl,by simp[u],?_⟩;have:=Ml (ys:=a.map V.ref++[.ref r]) (xs:=a.map V.ref) (Mr v2 S3 x) (S3 _ _ v);intro j q I;have t:=this j q I;have e:(if j=a.length then Bk (f (i^^^m.2.1)) ((2*m.1+4*pc ((i^^^m.2.1)&&&m.2.2):Nat):Int) else layW m f j)=layW m f j:=by
    by_cases e:j=a.length
    ·rw[if_pos e,e,u]
    ·rw[if_neg e]
   rw[<-e];exact t
 ·rintro ys H2 J ⟨a,d,v,rfl,u,v2⟩;exact y acc H2 a b d ⟨v,u,v2,λi hi=>Qc (g.ok _ (Ym hi o.f))⟩
end
end DG
namespace G7
open En En.Mv Jm Pc
end G7
namespace Mu
open En Mv Jm G7
end Mu
namespace M84
open En Mv Jm G7 Mu Pc
end M84
set_option maxHeartbeats 4000000
namespace Ai
open L2 Am Pc Ba
noncomputable def sm (fs:U6)(v:Int×Int×Int×Int):Nat->Int×Int×Int×Int
 | 0=>(0,0,0,0)
 | i+1=>let (a,b,c,d):=sm fs v i;let (x,y,z,u):=Bb i v;let f:=fs.getD i 0;(a+f*x,b+f*y,c+f*z,d+f*u)
abbrev Q4 (n:Nat)(v:Int×Int×Int×Int):Prop:=Gw n v.1 v.2.1 v.2.2.1 v.2.2.2
theorem mU{n:Nat}{v:Int×Int×Int×Int}(h:Q4 n v):∀i,Q4 n (Bb i v)
 | 0=>h
 | i+1=>let r:=mU h i;⟨r.z4.neg,r.z1,r.z2,r.z3⟩
theorem vL{n n':Nat}{fs:U6}{v:Int×Int×Int×Int}(h:Q4 n v)(hf:∀f∈fs,Sz n' f):∀i,Q4 (n+n'+i) (sm fs v i)
 | 0=>⟨Rc (by decide),Rc (by decide),Rc (by decide),Rc (by decide)⟩
 | i+1=>by
  have r:=mU h i;have s:=vL h hf i;have a:Sz n' (fs.getD i 0):=by
   rw[Kq];cases e:fs[i]? with
   | none=>exact Rc (by decide)
   | some f=>exact hf f (Il e)
  exact⟨(s.z1.add (a.mul r.z1)).mono (by omega),(s.z2.add (a.mul r.z2)).mono (by omega),(s.z3.add (a.mul r.z3)).mono (by omega),(s.z4.add (a.mul r.z4)).mono (by omega)⟩
noncomputable abbrev L4 (v:Int×Int×Int×Int):List Int:=[v.1,v.2.1,v.2.2.1,v.2.2.2]
structure nT (x y z:A5):Prop where
 amt:Fx z.1.1 z.1.2.1 z.1.2.2.1 z.1.2.2.2 z.2
 same:CG (x.1.1*y.1.1-x.1.2.1*y.1.2.2.2-x.1.2.2.1*y.1.2.2.1-x.1.2.2.2*y.1.2.1) (x.1.1*y.1.2.1+x.1.2.1*y.1.1-x.1.2.2.1*y.1.2.2.2-x.1.2.2.2*y.1.2.2.1)
  (x.1.1*y.1.2.2.1+x.1.2.1*y.1.2.1+x.1.2.2.1*y.1.1-x.1.2.2.2*y.1.2.2.2) (x.1.1*y.1.2.2.2+x.1.2.1*y.1.2.2.1+x.1.2.2.1*y.1.2.1+x.1.2.2.2*y.1.1) (x.2+y.2) z.1.1 z.1.2.1 z.1.2.2.1 z.1.2.2.2 z.2
 le:z.2<=x.2+y.2
def lK (K:U0):Sp:=λvs H Q _=>∃(p q:Y0) (x y:A5) (n n':Nat) (m m':Int),vs=[.ref p,.ref q]/\Ce K H p x/\Ce K H q y/\Em n m x/\Em n' m' y/\n+n'<=100000 /\
 ∀(r:Y0) (H':Hp) (z:A5),Same H H'->H' r=some (tA z)->nT x y z->Em (n+n'+4) (m+m') z->Q (.ref r) H'
def lW:Sp:=λvs H Q _=>∃(p:Y0) (a b c d h:Int),vs=[.ref p]/\H p=some (T5 a b c d h)/\0<=h/\∀(r:Y0) (H':Hp) (x y z u g:Int),Same H H'->H' r=some (T5 x y z u g)->Red a b c d (h+1) x y z u g->Q (.ref r) H'
section
variable {P:U8}{w:W1}{K:U0}{mg:U4}{base:Heap}{k:Nat}{h:Heap}
theorem Y7t(F:Aa K "times" (top 24) .none)(X:K.In h)(G:Ng h mg)(B:Bs mg)(c8:Ag P w K mg base k "halved_out" ["a","b","c","d","h"] EY)(cO:Ag P w K mg base k "spun_once" ["one"] (WW K)):Ag P w K mg base (k+1) "times" ["one","other"] (lK K):=by
 refine F.cal X G ["one","other","sums","turning","factor"] λJ H vs Q E hr h=>?_;obtain⟨p,q,⟨⟨a,b,c,d⟩,h⟩,⟨⟨a',b',c',d'⟩,h'⟩,n,R,m,m',rfl,e1,e2,ox,Y,hn,kq⟩:=h;have h0:0<=h:=ox.amt.nn;have a0:0<=h':=Y.amt.nn;have z:=ox.sz;have O:=Y.sz;have j:h<=m:=ox.le;have o:h'<=m':=Y.le;have S:Ah K H p [.int a,.int b,.int c,.int d,.int h]:=e1;have S':Ah K H q [.int a',.int b',.int c',.int d',.int h']:=e2;have hz:Q4 n (a,b,c,d):=z;have hf:∀f∈[a',b',c',d'],Sz R f:=by
  intro f A;simp only[Cy,Ei,Eh]at A;rcases A with rfl | rfl | rfl | rfl
  ·exact O.z1
  ·exact O.z2
  ·exact O.z3
  ·exact O.z4
 refine⟨_,(@Ak _ _ _ _ _ (@Bd _ _ 2 _ _ _ _ J rfl (Or.inl rfl) (@Gv _ _ _ _ (Ab Ad (Ab Ad (Ab Ad (Ab Ad Ae))))) rfl (.inl rfl))
  (@Ak _ _ _ _ _ (@Bd _ _ 3 _ _ _ _ J rfl (Or.inl rfl) (pv 0) rfl (.inl rfl))
  (@Ak _ _ _ _ _ (Jv PassesOwn.never rfl (Mj (J5 Ug (pv 1) Le (Jk Ad))) (Ck (i:=4) J rfl (Or.inr rfl))
   (@Ak _ _ _ _ _ (Wg (i:=2) rfl J rfl rfl (BZ.of (Nc:=["x","y","factor"]) (mp:=[none,none,some 4]) (by kernel_rfl)) (XQ false true rfl B.zip (Ab (pv 2) (Ab (J5 Ug (pv 3) Le (Jk Ad)) Ae))) (λ_ _ _ _=>(Qd rfl (show (["x","y","factor"]:W0).Nodup by decide +kernel) rfl rfl rfl rfl)) (λ_ _ _ _=>(Aq Gu (pv 0) (Aq Ld (pv 2) (pv 1)))) rfl)
   (@Aj _ _ _ (@Bd _ _ 3 _ _ _ _ J rfl (Or.inl rfl) (Av cO hr rfl (Ab (pv 3) Ae)) rfl (.inl rfl)))))
  (@Aj _ _ _ (Ay (Av c8 hr rfl (Ab (Al DK (pv 2) Ad (λ_ _=>rfl)) (Ab (Al DK (pv 2) Ad (λ_ _=>rfl)) (Ab (Al DK (pv 2) Ad (λ_ _=>rfl)) (Ab (Al DK (pv 2) Ad (λ_ _=>rfl)) (Ab (Aq Gu (Al Az (pv 0) Ad (λ_ _=>rfl)) (Al Az (pv 1) Ad (λ_ _=>rfl))) Ae))))))))))),?_⟩
 try dsimp only[Bg]
 refine⟨(by show 4<=sizeLine;decide),λl0 T=>?_⟩;have s1:=Ax T (.lst [.int 0,.int 0,.int 0,.int 0]);refine⟨_,U,?_⟩;refine⟨_,U,4,U,q,_,U,s1.tup S',Jf,λl1 j=>⟨l1,U,⟨_,Ah.of Ao⟩,?_⟩⟩;have s2:=s1.trans (Ax j (.tup ([a',b',c',d'].map V.int)))
 refine j4 (K:=K) (a:=l1) (xs:=[a',b',c',d'].map V.int) (λi σ H'=>Same (upd (upd H l0 (.lst [.int 0,.int 0,.int 0,.int 0])) l1 (.tup ([a',b',c',d'].map V.int))) H'/\∃l t v,σ=[some (.ref p),some (.ref q),some (.ref l),some (.ref t),v] /\
   H' l=some (.lst ((L4 (sm [a',b',c',d'] (a,b,c,d) i)).map V.int))/\Ce K H' t (Bb i (a,b,c,d),h))
  ⟨Same.refl _,l0,p,none,U,?_,e1.same s2⟩ (λi σ H' _ p=>p.1.tup (Ah.of Ao)) ?_ ?_
 ·rw[CK (λe=>by rw[<-e,Ao]at j;cases j),Ao];rfl
 ·rintro i x σ H2 A ⟨Z,l,t,v,rfl,M,W⟩;rw[Dw]at A;obtain⟨fa,D,rfl⟩:=GZ.mp A;have zf:=hf fa (Il D);have L:=mU hz i;have ef:[a',b',c',d'].getD i 0=fa:=by rw[Kq,D];rfl
  refine⟨_,U,_,U,4,U,t,_,U,W,Jf,λl2 o=>?_⟩;refine⟨l,l2,_,(L4 (Bb i (a,b,c,d))).map V.int,U,(Ax o _).seq (Af.of M),Ah.of Ao,λacc I=>?_⟩;refine sW (K:=K) (ns:=L4 (sm [a',b',c',d'] (a,b,c,d) i)) (ms:=L4 (Bb i (a,b,c,d))) (fr:=[some (.int fa)]) (λx y=>x+fa*y) rfl (show 4<=sizeLine by decide) ((Ax o _).seq (Af.of M)) (Ah.of Ao) I
   (λha hQ=>⟨_,_,U,Ah.of ha,U,_,_,U,_,_,U,U,hQ⟩) ?_ ?_
  ·intro x y H2 N A hy kN;have zy:Sz n y:=by
    simp only[Cy,Ei,Eh]at hy;rcases hy with rfl | rfl | rfl | rfl
    ·exact L.z1
    ·exact L.z2
    ·exact L.z3
    ·exact L.z4
   exact⟨_,U,_,U,_,U,_,_,U,U,⟨R,n,zf,zy,by omega⟩,_,_,U,U,kN⟩
  intro H3 s4 a4;have s5:=(Ax o (.tup ((L4 (Bb i (a,b,c,d))).map V.int))).trans s4;refine⟨_,U,t,_,_,_,_,_,U,W.same s5,λr H4 s6 e6=>?_⟩;refine⟨Z.trans (s5.trans s6),acc,r,_,U,?_,Ce.of e6⟩;rw[s6 _ _ a4,<-ef];rfl
 ·rintro σ H2 ⟨Z,l,t,v,rfl,M,W⟩;have S2:=s2.trans Z;have s:Af K H2 l ((L4 (sm [a',b',c',d'] (a,b,c,d) 4)).map V.int):=Af.of M;have zz:Q4 (n+R+4) (sm [a',b',c',d'] (a,b,c,d) 4):=vL hz hf 4;refine⟨_,U,l,_,_,_,U,U,s,U,_,U,l,_,_,_,U,U,s,U,_,U,l,_,_,_,U,U,s,U,_,U,l,_,_,_,U,U,s,U,_,U,p,_,_,_,U,U,S2.tup S,U,_,U,q,_,_,_,U,U,S2.tup S',U,_,_,U,U,?_⟩;refine⟨_,_,_,_,_,U,(by show 0<=h+h';omega),λr H' x y v u g s4 e4 C=>?_⟩;refine kq r H' ((x,y,v,u),g) (S2.trans s4) e4 ⟨C.amt,?_,C.le⟩ ⟨C.sz zz,C.amt,(by have:=C.le;show g<=m+m';omega)⟩;show CG (a*a'-b*d'-c*c'-d*b') (a*b'+b*a'-c*d'-d*c') (a*c'+b*b'+c*a'-d*d') (a*d'+b*c'+c*b'+d*a') (h+h') x y v u g;have hs:=C.same;have q1:(sm [a',b',c',d'] (a,b,c,d) 4).1=a*a'-b*d'-c*c'-d*b':=by
   show 0+a'*a+b'*-d+c'*-c+d'*-b=_;grind
  have q2:(sm [a',b',c',d'] (a,b,c,d) 4).2.1=a*b'+b*a'-c*d'-d*c':=by
   show 0+a'*b+b'*a+c'*-d+d'*-c=_;grind
  have q3:(sm [a',b',c',d'] (a,b,c,d) 4).2.2.1=a*c'+b*b'+c*a'-d*d':=by
   show 0+a'*c+b'*b+c'*a+d'*-d=_;grind
  have q4:(sm [a',b',c',d'] (a,b,c,d) 4).2.2.2=a*d'+b*c'+c*b'+d*a':=by
   show 0+a'*d+b'*c+c'*b+d'*a=_;grind
  rw[<-q1,<-q2,<-q3,<-q4];exact hs
theorem Y4x(F:Aa K "halved" (top 55) .none)(X:K.In h)(G:Ng h mg)(c8:Ag P w K mg base k "halved_out" ["a","b","c","d","h"] EY):Ag P w K mg base (k+1) "halved" ["one"] lW:=by
 refine F.cal X G ["one"] λg H vs Q f e h=>?_;obtain⟨p,a,b,c,d,h,rfl,hp,i,q⟩:=h;have S:Ah K H p [.int a,.int b,.int c,.int d,.int h]:=Ah.of hp;refine⟨_,(@Aj _ _ _ (Ay (Av c8 e rfl (Ab (Al Az (pv 0) Ad (λ_ _=>rfl)) (Ab (Al Az (pv 0) Ad (λ_ _=>rfl)) (Ab (Al Az (pv 0) Ad (λ_ _=>rfl)) (Ab (Al Az (pv 0) Ad (λ_ _=>rfl)) (Ab (Aq Gu (Al Az (pv 0) Ad (λ_ _=>rfl)) Ad) Ae)))))))),?_⟩;try dsimp only[Bg]
 exact⟨_,U,p,_,_,_,U,U,S,U,_,U,p,_,_,_,U,U,S,U,_,U,p,_,_,_,U,U,S,U,_,U,p,_,_,_,U,U,S,U,_,U,p,_,_,_,U,U,S,U,_,_,U,U,a,b,c,d,h+1,U,by omega,q⟩
end
end Ai
set_option maxRecDepth 10000
namespace Mx
open L2 (Sz)
def Pos (t r:Int):Prop:=(0<t/\2*r*r<t*t)\/(0<r/\t*t<2*r*r)
theorem u5:∀(n:Nat) (a b:Int),b.natAbs<n->a*a=2*b*b->a=0/\b=0
 | 0,_,_,h,_=>by omega
 | n+1,a,b,h,e=>by
  by_cases hb:b=0
  ·subst hb;have j:a*a=0:=by simpa using e
   exact⟨(NK.mp j).elim id id,U⟩
  ·have k:a%2=0:=by
    rcases Vn a with h0 | h1
    ·exact h0
    ·exfalso;have:(a*a)%2=1:=by rw[Int.mul_emod,h1];rfl
     rw[e,Oa]at this;omega
   obtain⟨c,rfl⟩:∃c,a=2*c:=⟨a / 2,by omega⟩;have g:b*b=2*c*c:=by grind
   have i:c.natAbs<b.natAbs:=by
    have h1:b.natAbs*b.natAbs=2*(c.natAbs*c.natAbs):=by
     have:=congrArg Int.natAbs g;rw[Hv,Oa,Hv,Hv]at this;simpa using this
    have f:0<b.natAbs:=by omega
    apply Nat.lt_of_not_le;intro d;have h2:b.natAbs*b.natAbs<=c.natAbs*c.natAbs:=Nat.mul_le_mul d d;have l:0<b.natAbs*b.natAbs:=Nat.mul_pos f f;omega
   have:=u5 n b c (by omega) g;exact absurd this.1 hb
variable{a b:Int}
theorem JZ(e:a*a=2*b*b):a=0/\b=0:=u5 _ a b (Px _) e
theorem mG{u v:Int}(hu:0<u)(h:v*v<u*u):0<u+v:=by
 apply Int.lt_of_not_ge;intro a;have h1:0<=-v-u:=by omega
 have h2:0<=(-v-u)*(-v+u):=Ob h1 (by omega);grind
variable{t r:Int}
theorem Pos.tri(h:¬ (t=0/\r=0)):Pos t r\/Pos (-t) (-r):=by
 have a:t*t≠2*r*r:=λe=>h (JZ e);unfold Pos;have b:-t*-t=t*t:=by grind
 have c:2*-r*-r=2*r*r:=by grind
 rw[b,c];rcases Int.lt_or_gt_of_ne a with hlt | hgt
 ·have:r≠0:=by
   rintro rfl;have:0<=t*t:=by
    rcases Pj 0 t with h | h
    ·exact Ob h h
    ·exact V8 h h
   omega
  omega
 ·have:t≠0:=by
   rintro rfl;have:0<=2*r*r:=by
    rcases Pj 0 r with h | h
    ·exact Ob (by omega) h
    ·exact V8 (by omega) h
   omega
  omega
theorem Pos.not_both(h:Pos t r)(h':Pos (-t) (-r)):False:=by
 unfold Pos at h h';have b:-t*-t=t*t:=by grind
 have a:2*-r*-r=2*r*r:=by grind
 rw[b,a]at h';omega
theorem Pos.zero:¬ Pos 0 0:=by unfold Pos;omega
theorem qt{u v:Int}(hu:0<u)(h:v*v<u*u):0<u+v/\0<u-v:=by
 constructor
 ·exact mG hu h
 ·have:=mG (v:=-v) hu (by grind);omega
theorem JD(a:Int):0<=a*a:=by
 rcases Pj 0 a with h | h
 ·exact Ob h h
 ·exact V8 h h
variable{c d:Int}
theorem Ua(ha:0<a)(hc:0<c)(h1:2*b*b<a*a)(h2:2*d*d<c*c):0<a*c+2*b*d/\0<a*c-2*b*d:=by
 have e:0<a*c:=Ht ha hc;have f:0<(a*a-2*b*b)*(c*c):=Ht (by omega) (Ht hc hc);have p2:0<=(b*b)*(c*c-2*d*d):=Ob (JD b) (by omega);exact qt e (by grind)
theorem UW(hb:0<b)(hd:0<d)(h1:a*a<2*b*b)(h2:c*c<2*d*d):0<2*b*d+a*c/\0<2*b*d-a*c:=by
 have e:0<2*b*d:=Ht (by omega) hd;have f:0<(2*b*b-a*a)*(d*d):=Ht (by omega) (Ht hd hd);have p2:0<=(a*a)*(2*d*d-c*c):=Ob (JD a) (by omega);exact qt e (by grind)
theorem UL(ha:0<a)(hd:0<d)(h1:2*b*b<a*a)(h2:c*c<2*d*d):0<a*d+b*c:=by
 have e:0<a*d:=Ht ha hd;have f:0<(a*a-2*b*b)*(d*d):=Ht (by omega) (Ht hd hd);have p2:0<=(b*b)*(2*d*d-c*c):=Ob (JD b) (by omega);exact mG e (by grind)
theorem Pos.mul(x:Pos a b)(y:Pos c d):Pos (a*c+2*b*d) (a*d+b*c):=by
 rcases x with ⟨ha,n1⟩ | ⟨hb,n1⟩
 ·rcases y with ⟨hc,n2⟩ | ⟨hd,n2⟩
  ·have p:0<(a*a-2*b*b)*(c*c-2*d*d):=Ht (by omega) (by omega);exact .inl ⟨(Ua ha hc n1 n2).1,by grind⟩
  ·have p:0<(a*a-2*b*b)*(2*d*d-c*c):=Ht (by omega) (by omega);exact .inr ⟨UL ha hd n1 n2,by grind⟩
 ·rcases y with ⟨hc,n2⟩ | ⟨hd,n2⟩
  ·have p:0<(2*b*b-a*a)*(c*c-2*d*d):=Ht (by omega) (by omega);have q:=UL hc hb n2 n1;exact .inr ⟨by grind,by grind⟩
  ·have p:0<(2*b*b-a*a)*(2*d*d-c*c):=Ht (by omega) (by omega);have q:=(UW hb hd n1 n2).1;exact .inl ⟨by grind,by grind⟩
theorem pY(ha:0<a)(hc:0<c)(n1:2*b*b<a*a)(n2:2*d*d<c*c):0<a+c/\2*(b+d)*(b+d)<(a+c)*(a+c):=by
 have q:=(Ua ha hc n1 n2).2;exact⟨by omega,by grind⟩
theorem pZ(hb:0<b)(hd:0<d)(n1:a*a<2*b*b)(n2:c*c<2*d*d):0<b+d/\(a+c)*(a+c)<2*(b+d)*(b+d):=by
 have q:=(UW hb hd n1 n2).2;exact⟨by omega,by grind⟩
theorem pX(ha:0<a)(n1:2*b*b<a*a)(hd:0<d)(n2:c*c<2*d*d):Pos (a+c) (b+d):=by
 have e:¬ (a+c=0/\b+d=0):=by
  rintro ⟨g,f⟩;obtain rfl:c=-a:=by omega
  obtain rfl:d=-b:=by omega
  grind
 rcases Pos.tri e with h | h
 ·exact h
 ·exfalso;rcases h with ⟨h1,h2⟩ | ⟨h1,h2⟩
  ·have:=(pY h1 ha h2 n1).2;grind
  ·have:=(pZ h1 hd h2 n2).2;grind
theorem Pos.add(x:Pos a b)(y:Pos c d):Pos (a+c) (b+d):=by
 rcases x with ⟨ha,n1⟩ | ⟨hb,n1⟩
 ·rcases y with ⟨hc,n2⟩ | ⟨hd,n2⟩
  ·exact .inl (pY ha hc n1 n2)
  ·exact pX ha n1 hd n2
 ·rcases y with ⟨hc,n2⟩ | ⟨hd,n2⟩
  ·have:=pX hc n2 hb n1;rw[Int.add_comm a c,Int.add_comm b d];exact this
  ·exact .inr (pZ hb hd n1 n2)
theorem Pos.nat{k:Int}(h:0<k):Pos k 0:=.inl ⟨h,by have:=Ht h h;omega⟩
theorem Pos.mul_iff(x:Pos a b):Pos (a*c+2*b*d) (a*d+b*c)↔Pos c d:=by
 refine⟨λh=>?_,λh=>x.mul h⟩;by_cases hz:c=0/\d=0
 ·obtain⟨rfl,rfl⟩:=hz;simp at h;exact absurd h Pos.zero
 ·rcases Pos.tri hz with q | q
  ·exact q
  ·exfalso;have:=x.mul q;refine Pos.not_both h ?_;have f:a*-c+2*b*-d=-(a*c+2*b*d):=by grind
   have e:a*-d+b*-c=-(a*d+b*c):=by grind
   rw[f,e]at this;exact this
theorem Pos.scale{k:Int}(hk:0<k):Pos (k*c) (k*d)↔Pos c d:=by
 have:=Pos.mul_iff (c:=c) (d:=d) (Pos.nat hk);simpa using this
def J_ (p q n:Int):Prop:=Nat.gcd (Nat.gcd p.natAbs q.natAbs) n.natAbs=1
structure Low (t r b p q n:Int):Prop where
 ex:∃g:Int,g≠0/\t=g*p/\r=g*q/\b=g*n
 pos:0<n
 cop:J_ p q n
theorem Low.sizes{p q n:Int}(h:Low t r b p q n):p.natAbs<=t.natAbs/\q.natAbs<=r.natAbs/\n.natAbs<=b.natAbs:=by
 obtain⟨g,c,rfl,rfl,rfl⟩:=h.ex;have a:0<g.natAbs:=by omega
 refine⟨?_,?_,?_⟩<;>(rw[Hv];exact oZ _ a)
theorem rm{a b c:Nat}(h:c≠0):0<Nat.gcd (Nat.gcd a b) c:=Nat.gcd_pos_of_pos_right _ (by omega)
theorem X3q(hb:b≠0){G:Nat}(hG:G=Nat.gcd (Nat.gcd t.natAbs r.natAbs) b.natAbs){g:Int}(hg:g=if b<0 then -(G:Int) else G):
  Low t r b (t.fdiv g) (r.fdiv g) (b.fdiv g):=by
 have i:0<G:=by rw[hG];exact rm (by omega)
 have d:g≠0:=by rw[hg];split<;>omega
 have c:g.natAbs=G:=by rw[hg];split<;>omega
 have k:g ∣ t:=Vz.mp (by rw[c,hG];exact Nat.dvd_trans (Yc _ _) (Yc _ _));have m:g ∣ r:=Vz.mp (by rw[c,hG];exact Nat.dvd_trans (Yc _ _) (Nat.gcd_dvd_right _ _));have l:g ∣ b:=Vz.mp (by rw[c,hG];exact Nat.gcd_dvd_right _ _);obtain⟨p,hp⟩:=k;obtain⟨q,j⟩:=m;obtain⟨n,f⟩:=l;have ep:t.fdiv g=p:=by rw[hp];exact Y7 _ d
 have s:r.fdiv g=q:=by rw[j];exact Y7 _ d
 have en:b.fdiv g=n:=by rw[f];exact Y7 _ d
 rw[ep,s,en];refine⟨⟨g,d,hp,j,f⟩,?_,?_⟩
 ·apply Int.lt_of_not_ge;intro h;have o:n≠0:=by rintro rfl;rw[Int.mul_zero]at f;exact hb f
  by_cases hbn:b<0
  ·rw[if_pos hbn]at hg;have:=V8 (a:=g) (b:=n) (by omega) h;omega
  ·rw[if_neg hbn]at hg;have:=Int.mul_neg_of_pos_of_neg (a:=g) (b:=n) (by omega) (by omega);omega
 ·unfold J_;have e:G*Nat.gcd (Nat.gcd p.natAbs q.natAbs) n.natAbs=G*1:=by
   rw[<-Pu,<-Pu,<-c,<-Hv,<-Hv,<-Hv,<-hp,<-j,<-f,c,Nat.mul_one];exact hG.symm
  exact Nat.eq_of_mul_eq_mul_left i e
theorem Y5w(t r b:Nat):Nat.gcd (Nat.gcd b r) t=Nat.gcd (Nat.gcd t r) b:=by
 rw[Vj (Nat.gcd b r) t,Vj b r,<-Nat.gcd_assoc]
theorem Low.unique{p q n p' q' n':Int}(h:0<n)(h':0<n')(c:J_ p q n)(c':J_ p' q' n')(e1:p'*n=p*n')(e2:q'*n=q*n'):p=p'/\q=q'/\n=n':=by
 have en:n.natAbs=n'.natAbs:=by
  have d:n.natAbs*Nat.gcd (Nat.gcd p'.natAbs q'.natAbs) n'.natAbs=n'.natAbs*Nat.gcd (Nat.gcd p.natAbs q.natAbs) n.natAbs:=by
   rw[<-Pu,<-Pu,<-Pu,<-Pu,<-Hv,<-Hv,<-Hv,<-Hv,<-Hv,<-Hv,
    Jb n p',Jb n q',Jb n' p,Jb n' q,e1,e2,Jb n n']
  have c1:Nat.gcd (Nat.gcd p.natAbs q.natAbs) n.natAbs=1:=c;have c2:Nat.gcd (Nat.gcd p'.natAbs q'.natAbs) n'.natAbs=1:=c';rw[c1,c2]at d;omega
 have a:n=n':=by omega
 subst a;have b:n≠0:=by omega
 exact⟨(Jd b e1).symm,(Jd b e2).symm,U⟩
end Mx
namespace Hr
open L2 Am Mx
noncomputable def tt (a b c d:Int):Int:=a*a+b*b+c*c+d*d
noncomputable def rr (a b c d:Int):Int:=a*b+b*c+c*d-d*a
theorem X5i(k a b c d:Int):tt (a*k) (b*k) (c*k) (d*k)=tt a b c d*(k*k):=by unfold tt;grind
theorem X5q(k a b c d:Int):rr (a*k) (b*k) (c*k) (d*k)=rr a b c d*(k*k):=by unfold rr;grind
theorem R5(a b c d:Int):tt a b c d*tt a b c d-2*rr a b c d*rr a b c d=(a*a-c*c+2*b*d)*(a*a-c*c+2*b*d)+(2*a*c-b*b+d*d)*(2*a*c-b*b+d*d):=by
 unfold tt rr;grind
theorem Jz{x:Int}(h:x*x=0):x=0:=by rcases NK.mp h with h | h<;>exact h
variable{b c d:Int}
theorem R6{a:Int}(hA:a*a-c*c+2*b*d=0)(hB:2*a*c-b*b+d*d=0):a=0/\b=0/\c=0/\d=0:=by
 have j:(a*b+c*d)*(a*b+c*d)=(b*c-a*d)*(b*c-a*d):=by grind
 have k:2*(a*b+c*d)*(b*c-a*d)=(b*b+d*d)*(b*b+d*d):=by grind
 have p:0<=b*b+d*d:=Int.add_nonneg (JD b) (JD d);have s:(2*(a*b+c*d)*(a*b+c*d))*(2*(a*b+c*d)*(a*b+c*d))=((b*b+d*d)*(b*b+d*d))*((b*b+d*d)*(b*b+d*d)):=by
  rw[<-k];have:(2*(a*b+c*d)*(a*b+c*d))*(2*(a*b+c*d)*(a*b+c*d))=4*((a*b+c*d)*(a*b+c*d))*((a*b+c*d)*(a*b+c*d)):=by grind
  rw[this];have h2:2*(a*b+c*d)*(b*c-a*d)*(2*(a*b+c*d)*(b*c-a*d))=4*((a*b+c*d)*(a*b+c*d))*((b*c-a*d)*(b*c-a*d)):=by grind
  rw[h2,<-j]
 have m:0<=2*(a*b+c*d)*(a*b+c*d):=by
  have:=JD (a*b+c*d);have e:2*(a*b+c*d)*(a*b+c*d)=2*((a*b+c*d)*(a*b+c*d)):=by grind
  rw[e];omega
 have o:0<=(b*b+d*d)*(b*b+d*d):=JD _;have i:(b*b+d*d)*(b*b+d*d)=2*(a*b+c*d)*(a*b+c*d):=by
  generalize 2*(a*b+c*d)*(a*b+c*d)=u at *;generalize (b*b+d*d)*(b*b+d*d)=v at *;rcases Int.lt_trichotomy u v with h | h | h
  ·have h1:u*u<=u*v:=pH (Int.le_of_lt h) m;have h2:u*v<v*v:=pG h (by omega);omega
  ·exact h.symm
  ·have h1:v*v<=v*u:=pH (Int.le_of_lt h) o;have h2:v*u<u*u:=pG h (by omega);omega
 have r:=JZ i;have hb:=JD b;have q:=JD d;have n:b=0:=Jz (by omega);have l:d=0:=Jz (by omega);subst n l;have f:a*c=0:=by grind
 have g:a*a=c*c:=by grind
 rcases NK.mp f with h | h
 ·subst h;exact⟨U,U,Jz (by omega),U⟩
 ·subst h;exact⟨Jz (by omega),U,U,U⟩
theorem Y1o{a:Int}(h:¬ (a=0/\b=0/\c=0/\d=0)):Pos (tt a b c d) (rr a b c d):=by
 have n:=R5 a b c d;have g:=JD (a*a-c*c+2*b*d);have m:=JD (2*a*c-b*b+d*d);have j:=JD a;have i:=JD b;have k:=JD c;have l:=JD d;have tpos:0<tt a b c d:=by
  unfold tt;apply Classical.byContradiction;intro f;exact h ⟨Jz (by omega),Jz (by omega),Jz (by omega),Jz (by omega)⟩
 refine .inl ⟨tpos,?_⟩;apply Classical.byContradiction;intro f;generalize hX:a*a-c*c+2*b*d=X at *;generalize hY:2*a*c-b*b+d*d=Y at *;have x0:X=0:=Jz (by omega);have e:Y=0:=Jz (by omega);subst x0 e;exact h (R6 hX hY)
theorem yH(h:Int):0<p2 h:=by unfold p2;exact Vg (by decide)
theorem can{k x y:Int}(hk:k≠0)(h:k*x=k*y):x=y:=QG hk h
theorem Low.cr{t r p q n:Int}(l:Low t r b p q n):p*b=t*n/\q*b=r*n:=by
 obtain⟨g,_,rfl,rfl,rfl⟩:=l.ex;constructor<;>grind
end Hr
namespace Hw
open L2 Am Pc Ba Mx Hr
noncomputable def FN (F:Nat->Int):Nat->Int
 | 0=>0
 | n+1=>FN F n+F n
theorem U_{F G:Nat->Int}:∀{n},(∀i,i<n->F i=G i)->FN F n=FN G n
 | 0,_=>rfl
 | n+1,h=>by
  show FN F n+F n=FN G n+G n;rw[U_ λi hi=>h i (by omega),h n (by omega)]
theorem lM{F:Nat->Int}{k:Int}:∀n,FN (λi=>k*F i) n=k*FN F n
 | 0=>by show (0:Int)=k*0;rw[Int.mul_zero]
 | n+1=>by
  show FN (λi=>k*F i) n+k*F n=k*(FN F n+F n);rw[lM n,Int.mul_add]
noncomputable def va (x:A5)(M:Int):Int:=x.1.1*p2 (M-x.2)
noncomputable def vb (x:A5)(M:Int):Int:=x.1.2.1*p2 (M-x.2)
noncomputable def vc (x:A5)(M:Int):Int:=x.1.2.2.1*p2 (M-x.2)
noncomputable def vd (x:A5)(M:Int):Int:=x.1.2.2.2*p2 (M-x.2)
noncomputable def Gq (x:A5)(M:Int):Int:=tt (va x M) (vb x M) (vc x M) (vd x M)
noncomputable def Dg (x:A5)(M:Int):Int:=rr (va x M) (vb x M) (vc x M) (vd x M)
theorem Uk(x:A5)(M:Int):Gq x M=tt x.1.1 x.1.2.1 x.1.2.2.1 x.1.2.2.2*(p2 (M-x.2)*p2 (M-x.2)):=X5i _ _ _ _ _
theorem Uv(x:A5)(M:Int):Dg x M=rr x.1.1 x.1.2.1 x.1.2.2.1 x.1.2.2.2*(p2 (M-x.2)*p2 (M-x.2)):=X5q _ _ _ _ _
variable{M N:Int}
theorem wY{x:A5}(h:x.2<=M)(h':M<=N):Gq x N=(p2 (N-M)*p2 (N-M))*Gq x M/\Dg x N=(p2 (N-M)*p2 (N-M))*Dg x M:=by
 have e:p2 (N-x.2)=p2 (N-M)*p2 (M-x.2):=by
  rw[<-H_ (by omega) (by omega)];congr 1;omega
 rw[Uk,Uk,Uv,Uv,e];constructor<;>grind
noncomputable def CN (f:Nat->A5)(n:Nat)(M:Int):Int:=FN (λw=>Gq (f w) M) n
noncomputable def A_ (f:Nat->A5)(n:Nat)(M:Int):Int:=FN (λw=>Dg (f w) M) n
variable{f:Nat->A5}{n:Nat}
theorem X5o(h:∀w,w<n->(f w).2<=M)(h':M<=N):CN f n N=(p2 (N-M)*p2 (N-M))*CN f n M/\A_ f n N=(p2 (N-M)*p2 (N-M))*A_ f n M:=by
 unfold CN A_;rw[<-lM,<-lM];exact⟨U_ λi hi=>(wY (h i hi) h').1,U_ λi hi=>(wY (h i hi) h').2⟩
def Fl (f:Nat->A5)(n:Nat)(x y z M:Int):Prop:=x*(p2 M*p2 M)=CN f n M*z/\y*(p2 M*p2 M)=A_ f n M*z
structure He (f:Nat->A5) (n:Nat) (x y z:Int):Prop where
 pos:0<z
 cop:J_ x y z
 eq:∀M,0<=M->(∀w,w<n->(f w).2<=M)->Fl f n x y z M
variable{x y z:Int}
theorem Fl.move(h0:0<=M)(h:∀w,w<n->(f w).2<=M)(h':M<=N):Fl f n x y z M↔Fl f n x y z N:=by
 obtain⟨d,g⟩:=X5o h h';have e:p2 N=p2 (N-M)*p2 M:=by rw[<-H_ (by omega) h0];congr 1;omega
 have c:p2 (N-M)*p2 (N-M)≠0:=NP (Es _) (Es _);unfold Fl;rw[d,g,e];generalize p2 (N-M)=q at *;constructor
 ·rintro ⟨a,b⟩;constructor<;>grind
 ·rintro ⟨a,b⟩;constructor
  ·apply can c;grind
  ·apply can c;grind
theorem He.of(pos:0<z)(cop:J_ x y z)(h0:0<=M)(h:∀w,w<n->(f w).2<=M)(e:Fl f n x y z M):He f n x y z:=by
 refine⟨pos,cop,λN a b=>?_⟩;rcases Pj M N with l | l
 ·exact(Fl.move h0 h l).mp e
 ·exact(Fl.move a b l).mpr e
theorem bound{f:Nat->A5}:∀n:Nat,∃M:Int,0<=M/\∀w,w<n->(f w).2<=M
 | 0=>⟨0,Ln 0,λw h=>absurd h (Oc w)⟩
 | n+1=>by
  obtain⟨M,a,h⟩:=bound (f:=f) n;refine⟨max M (f n).2,by omega,λw b=>?_⟩;by_cases e:w=n
  ·subst e;omega
  ·have:=h w (by omega);omega
theorem He.unique{g:Nat->A5}{x' y' z':Int}(a:He f n x y z)(b:He g n x' y' z')(e:∃c,∀M,c<=M->CN f n M=CN g n M/\A_ f n M=A_ g n M):x=x'/\y=y'/\z=z':=by
 obtain⟨c,e⟩:=e;obtain⟨l,t,h1⟩:=bound (f:=f) n;obtain⟨h,s,h2⟩:=bound (f:=g) n;let M:=max c (max l h);have k0:c<=M:=Int.le_max_left _ _;have k1:l<=M:=Rh (Int.le_max_left _ _) (YX _ _);have k2:h<=M:=Rh (YX _ _) (YX _ _);obtain⟨j,k⟩:=a.eq M (by omega) λw d=>Rh (h1 w d) k1;obtain⟨m,r⟩:=b.eq M (by omega) λw d=>Rh (h2 w d) k2;obtain⟨p,o⟩:=e M k0;rw[p]at j;rw[o]at k;have i:p2 M*p2 M≠0:=NP (Es _) (Es _);generalize CN g n M=T at *;generalize A_ g n M=R at *;generalize p2 M*p2 M=q at *;refine Low.unique a.pos b.pos a.cop b.cop ?_ ?_
 ·apply can i;have:q*(x'*z)=x'*q*z:=by grind
  rw[this,m];have:q*(x*z')=x*q*z':=by grind
  rw[this,j];grind
 ·apply can i;have:q*(y'*z)=y'*q*z:=by grind
  rw[this,r];have:q*(y*z')=y*q*z':=by grind
  rw[this,k];grind
end Hw
namespace Lk
open L2 Am Pc Ba Mx Hr Hw
abbrev V4:=Int×Int×Int×Int
theorem Iz{u v:V4}(h1:u.1=v.1)(h2:u.2.1=v.2.1)(h3:u.2.2.1=v.2.2.1)(h4:u.2.2.2=v.2.2.2):u=v:=by
 obtain⟨a,b,c,d⟩:=u;obtain⟨a',b',c',d'⟩:=v;simp only at h1 h2 h3 h4;subst h1 h2 h3 h4;rfl
noncomputable def add (u v:V4):V4:=(u.1+v.1,u.2.1+v.2.1,u.2.2.1+v.2.2.1,u.2.2.2+v.2.2.2)
noncomputable def sm (k:Int)(v:V4):V4:=(k*v.1,k*v.2.1,k*v.2.2.1,k*v.2.2.2)
noncomputable def vec (x:A5)(M:Int):V4:=(va x M,vb x M,vc x M,vd x M)
abbrev Fy (x:A5):Prop:=Fx x.1.1 x.1.2.1 x.1.2.2.1 x.1.2.2.2 x.2
noncomputable abbrev nought:A5:=((0,0,0,0),0)
theorem WQ(v:V4)(j:Nat):∀i,Bb i (Bb j v)=Bb (i+j) v
 | 0=>by rw[Nat.zero_add];rfl
 | i+1=>by
  rw[show i+1+j=(i+j)+1 by omega];show (-(Bb i (Bb j v)).2.2.2,(Bb i (Bb j v)).1,(Bb i (Bb j v)).2.1,(Bb i (Bb j v)).2.2.1)=_;rw[WQ v j i];rfl
theorem mZ(v:V4):Bb 4 v=sm (-1) v:=by
 refine Iz ?_ ?_ ?_ ?_<;>simp[Bb,sm]
theorem X8l(v:V4):Bb 8 v=v:=by
 rw[show 8=4+4 from rfl,<-WQ,mZ,mZ];refine Iz ?_ ?_ ?_ ?_<;>simp[sm]
theorem X1v(v:V4)(k:Nat):Bb (k%8) v=Bb k v:=by
 have:∀q r,Bb (r+8*q) v=Bb r v:=by
  intro q;induction q with
  | zero=>intro r;rfl
  | succ q ih =>
   intro r;rw[show r+8*(q+1)=(r+8*q)+8 by omega,<-WQ,X8l,ih]
 have e:=this (k / 8) (k%8);rw[show k%8+8*(k / 8)=k by omega]at e;exact e.symm
theorem uP{v:V4}{h M:Int}:∀k,vec (Bb k v,h) M=Bb k (vec (v,h) M)
 | 0=>rfl
 | k+1=>by
  show vec ((-(Bb k v).2.2.2,(Bb k v).1,(Bb k v).2.1,(Bb k v).2.2.1),h) M=(-(Bb k (vec (v,h) M)).2.2.2,(Bb k (vec (v,h) M)).1,(Bb k (vec (v,h) M)).2.1,(Bb k (vec (v,h) M)).2.2.1);rw[<-uP k];refine Iz ?_ rfl rfl rfl;show -(Bb k v).2.2.2*p2 (M-h)=-((Bb k v).2.2.2*p2 (M-h));rw[Vf]
variable{x:A5}{M:Int}
theorem lN(k:Nat):vec (Bk x k) M=Bb k (vec x M):=by
 show vec (Bb ((k:Int)%8).toNat x.1,x.2) M=_;rw[uP,show ((k:Int)%8).toNat=k%8 by omega,X1v]
variable{y:A5}
theorem Y7f(hx0:0<=x.2)(hy0:0<=y.2)(hx:x.2<=M)(hy:y.2<=M)(e:vec x M=vec y M):CG x.1.1 x.1.2.1 x.1.2.2.1 x.1.2.2.2 x.2 y.1.1 y.1.2.1 y.1.2.2.1 y.1.2.2.2 y.2:=by
 have k:∀{a b:Int},a*p2 (M-x.2)=b*p2 (M-y.2)->Dy a x.2 b y.2:=λ{a b} q=>by
  unfold Dy;have c:=Ju hx0 hx;have g:=Ju hy0 hy;apply Jd (Es M);have d:a*p2 y.2*p2 M=(a*p2 (M-x.2))*(p2 x.2*p2 y.2):=by rw[c];grind
  have f:b*p2 x.2*p2 M=(b*p2 (M-y.2))*(p2 x.2*p2 y.2):=by rw[g];grind
  rw[d,f,q]
 exact⟨k (congrArg (λt:V4=>t.1) e),k (congrArg (λt:V4=>t.2.1) e),k (congrArg (λt:V4=>t.2.2.1) e),k (congrArg (λt:V4=>t.2.2.2) e)⟩
theorem xM(hx0:0<=x.2)(hy0:0<=y.2)(hx:x.2<=M)(hy:y.2<=M)(s:CG x.1.1 x.1.2.1 x.1.2.2.1 x.1.2.2.2 x.2 y.1.1 y.1.2.1 y.1.2.2.1 y.1.2.2.2 y.2):vec x M=vec y M:=by
 have k:∀{a b:Int},Dy a x.2 b y.2->a*p2 (M-x.2)=b*p2 (M-y.2):=λ{a b} q=>by
  unfold Dy at q;have e1:=Ju hx0 hx;have e2:=Ju hy0 hy;apply Jd (NP (Es x.2) (Es y.2));have c:a*p2 (M-x.2)*(p2 x.2*p2 y.2)=(a*p2 y.2)*p2 M:=by rw[e1];grind
  have d:b*p2 (M-y.2)*(p2 x.2*p2 y.2)=(b*p2 x.2)*p2 M:=by rw[e2];grind
  rw[c,d,q]
 exact Iz (k s.e1) (k s.e2) (k s.e3) (k s.e4)
theorem QJ(h:x.1.1=y.1.1/\x.1.2.1=y.1.2.1/\x.1.2.2.1=y.1.2.2.1/\x.1.2.2.2=y.1.2.2.2/\x.2=y.2):x=y:=by
 obtain⟨⟨a,b,c,d⟩,h1⟩:=x;obtain⟨⟨a',b',c',d'⟩,h2⟩:=y;obtain⟨rfl,rfl,rfl,rfl,rfl⟩:=h;rfl
theorem k_(ax:Fy x)(ay:Fy y)(hx:x.2<=M)(hy:y.2<=M)(e:vec x M=vec y M):x=y:=QJ (ax.unique ay (Y7f ax.nn ay.nn hx hy e))
theorem Y1p(a:Fy x):vec x M=(0,0,0,0)↔x=nought:=by
 constructor
 ·intro e;have n:=Es (M-x.2);have z:∀{t:Int},t*p2 (M-x.2)=0->t=0:=λ{t} h=>by
   rcases NK.mp h with q | q
   ·exact q
   ·exact absurd q n
  have c:=z (congrArg (λt:V4=>t.1) e);have d:=z (congrArg (λt:V4=>t.2.1) e);have f:=z (congrArg (λt:V4=>t.2.2.1) e);have b:=z (congrArg (λt:V4=>t.2.2.2) e);have o:=a.odd;exact QJ ⟨c,d,f,b,by show x.2=0;omega⟩
 ·rintro rfl;refine Iz ?_ ?_ ?_ ?_<;>simp[vec,va,vb,vc,vd]
theorem wD{v:V4}{h:Int}(a:Fy (v,h)):∀k,Fy (Bb k v,h)
 | 0=>a
 | k+1=>by
  have r:=wD a k;have o:h=0\/(Bb k v).1%2=1\/(Bb k v).2.1%2=1\/(Bb k v).2.2.1%2=1\/(Bb k v).2.2.2%2=1:=r.odd;refine⟨r.nn,?_⟩;show h=0\/(-(Bb k v).2.2.2)%2=1\/(Bb k v).1%2=1\/(Bb k v).2.1%2=1\/(Bb k v).2.2.1%2=1;omega
theorem WD{k:Int}(a:Fy x):Fy (Bk x k):=wD (v:=x.1) (h:=x.2) a _
structure Bu (s:Int) (x y z:A5):Prop where
 amt:Fy z
 eq:∀M,x.2<=M->y.2<=M->z.2<=M->sm 2 (vec z M)=add (vec x M) (sm s (vec y M))
theorem xG{k:Int}(h:k≠0){u v:V4}(e:sm k u=sm k v):u=v:=by
 have b:k*u.1=k*v.1:=congrArg (λt:V4=>t.1) e;have c:k*u.2.1=k*v.2.1:=congrArg (λt:V4=>t.2.1) e;have d:k*u.2.2.1=k*v.2.2.1:=congrArg (λt:V4=>t.2.2.1) e;have a:k*u.2.2.2=k*v.2.2.2:=congrArg (λt:V4=>t.2.2.2) e;exact Iz (QG h b) (QG h c) (QG h d) (QG h a)
variable{z:A5}
theorem Bu.unique{s:Int}{z':A5}(a:Bu s x y z)(b:Bu s x y z'):z=z':=by
 have k1:x.2<=max (max x.2 y.2) (max z.2 z'.2):=by omega
 have k2:y.2<=max (max x.2 y.2) (max z.2 z'.2):=by omega
 have d:z.2<=max (max x.2 y.2) (max z.2 z'.2):=by omega
 have c:z'.2<=max (max x.2 y.2) (max z.2 z'.2):=by omega
 exact k_ a.amt b.amt d c (xG (by decide) ((a.eq _ k1 k2 d).trans (b.eq _ k1 k2 c).symm))
theorem Bu.of{s:Int}(am:Fy z)(x0:0<=x.2)(y0:0<=y.2)(hx:x.2<=M)(hy:y.2<=M)(hz:z.2<=M)(e:sm 2 (vec z M)=add (vec x M) (sm s (vec y M))):Bu s x y z:=by
 refine⟨am,λN nx p g=>?_⟩;have d:∀{t:A5}{A B:Int},t.2<=A->A<=B->vec t B=sm (p2 (B-A)) (vec t A):=λ{t A B} h h'=>by
  have q:p2 (B-t.2)=p2 (B-A)*p2 (A-t.2):=by rw[<-H_ (by omega) (by omega)];congr 1;omega
  refine Iz ?_ ?_ ?_ ?_<;>simp only[vec,va,vb,vc,vd,sm,q]<;>grind
 have f:∀(k:Int) {a b c:V4},sm 2 a=add b (sm s c)->sm 2 (sm k a)=add (sm k b) (sm s (sm k c)):=λk {a b c} q=>by
  have m:2*a.1=b.1+s*c.1:=congrArg (λt:V4=>t.1) q;have i:2*a.2.1=b.2.1+s*c.2.1:=congrArg (λt:V4=>t.2.1) q;have j:2*a.2.2.1=b.2.2.1+s*c.2.2.1:=congrArg (λt:V4=>t.2.2.1) q;have o:2*a.2.2.2=b.2.2.2+s*c.2.2.2:=congrArg (λt:V4=>t.2.2.2) q;refine Iz ?_ ?_ ?_ ?_<;>simp only[add,sm]<;>grind
 rcases Pj M N with l | l
 ·rw[d hz l,d hx l,d hy l];exact f _ e
 ·rw[d g l,d nx l,d p l]at e;have n:=Es (M-N);apply xG n;have m:2*(p2 (M-N)*(vec z N).1)=p2 (M-N)*(vec x N).1+s*(p2 (M-N)*(vec y N).1):=congrArg (λt:V4=>t.1) e;have i:2*(p2 (M-N)*(vec z N).2.1)=p2 (M-N)*(vec x N).2.1+s*(p2 (M-N)*(vec y N).2.1):=congrArg (λt:V4=>t.2.1) e;have j:2*(p2 (M-N)*(vec z N).2.2.1)=p2 (M-N)*(vec x N).2.2.1+s*(p2 (M-N)*(vec y N).2.2.1):=congrArg (λt:V4=>t.2.2.1) e;have o:2*(p2 (M-N)*(vec z N).2.2.2)=p2 (M-N)*(vec x N).2.2.2+s*(p2 (M-N)*(vec y N).2.2.2):=congrArg (λt:V4=>t.2.2.2) e;refine Iz ?_ ?_ ?_ ?_<;>simp only[add,sm]<;>grind
theorem X8g(a b:Int)(v:V4):sm a (sm b v)=sm (a*b) v:=by
 refine Iz ?_ ?_ ?_ ?_<;>simp only[sm,Oa]
theorem xH(v:V4):sm 1 v=v:=by refine Iz ?_ ?_ ?_ ?_<;>simp only[sm,Rb]
noncomputable def CV (q fl s:Nat)(f:Nat->A5):Nat->A5:=λv=>Bk (f (v^^^fl)) (2*q+4*pc ((v^^^fl)&&&s))
theorem Qa(x y:Nat):(x^^^y)^^^y=x:=by rw[Nat.xor_assoc,Nat.xor_self,Nat.xor_zero]
def Eo (q fl s:Nat)(o:Int)(n:Nat)(f g:Nat->A5):Prop:=∀v,v<n->Bu o (f v) (CV q fl s f v) (g v)
noncomputable def sg (o:Nat):Int:=1-2*o
variable{o:Nat}
theorem X8k(h:o<2):sg o*sg o=1:=by
 rcases (show o=0\/o=1 by omega) with rfl | rfl<;>decide
theorem w6(h:o<2)(v:V4):Bb (4*o) v=sm (sg o) v:=by
 rcases (show o=0\/o=1 by omega) with rfl | rfl
 ·exact(xH v).symm
 ·exact mZ v
theorem qG(ho:o<2)(ax:Fy x)(ay:Fy y)(a:Bu (sg o) x y z):z=nought↔y=Bk x (4*(1-o):Nat):=by
 obtain⟨M,h1,h2,i⟩:∃M,x.2<=M/\y.2<=M/\z.2<=M:=⟨max (max x.2 y.2) z.2,by omega,by omega,by omega⟩;have e:=a.eq M h1 h2 i;have r:vec (Bk x (4*(1-o):Nat)) M=sm (sg (1-o)) (vec x M):=by rw[lN,w6 (by omega)]
 rw[<-Y1p (M:=M) a.amt];have b:∀{t v w:Int},2*t=v+sg o*w->(t=0↔w=sg (1-o)*v):=λ{t v w} h=>by
  rcases (show o=0\/o=1 by omega) with rfl | rfl
  ·show _↔w=sg 1*v;have h:2*t=v+1*w:=h;show _↔w=-1*v;omega
  ·show _↔w=sg 0*v;have h:2*t=v+-1*w:=h;show _↔w=1*v;omega
 have k1:=b (congrArg (λt:V4=>t.1) e);have k2:=b (congrArg (λt:V4=>t.2.1) e);have f:=b (congrArg (λt:V4=>t.2.2.1) e);have d:=b (congrArg (λt:V4=>t.2.2.2) e);constructor
 ·intro c;refine k_ ay (WD ax) h2 h1 (M:=M) ?_;rw[r];exact Iz (k1.mp (congrArg (λt:V4=>t.1) c)) (k2.mp (congrArg (λt:V4=>t.2.1) c)) (f.mp (congrArg (λt:V4=>t.2.2.1) c)) (d.mp (congrArg (λt:V4=>t.2.2.2) c))
 ·intro g;rw[<-g]at r;exact Iz (k1.mpr (congrArg (λt:V4=>t.1) r)) (k2.mpr (congrArg (λt:V4=>t.2.1) r)) (f.mpr (congrArg (λt:V4=>t.2.2.1) r)) (d.mpr (congrArg (λt:V4=>t.2.2.2) r))
end Lk
namespace Lq
open L2 Am Pc Ba Mx Hr Hw Lk
variable{M:Int}
theorem Ku:Gq nought M=0/\Dg nought M=0:=by
 rw[Uk,Uv];constructor<;>simp[tt,rr]
theorem X8o{x:A5}(a:Fy x)(nz:x≠nought):Pos (Gq x M) (Dg x M):=by
 rw[Uk,Uv,Jb,Jb (rr _ _ _ _),Pos.scale (Ht (O7 _) (O7 _))];refine Y1o λh=>nz ?_;have o:=a.odd;obtain⟨h1,h2,c,b⟩:=h;exact Lk.QJ ⟨h1,h2,c,b,by show x.2=0;omega⟩
theorem mV{f:Nat->A5}{M:Int}:∀n:Nat,(∀w,w<n->Fy (f w))->(CN f n M=0/\A_ f n M=0/\∀w,w<n->f w=nought)\/(Pos (CN f n M) (A_ f n M)/\∃w,w<n/\f w≠nought)
 | 0,_=>.inl ⟨rfl,rfl,λw h=>absurd h (Oc w)⟩
 | n+1,h=>by
  have g:=mV (f:=f) (M:=M) n λw d=>h w (by omega);have i:CN f (n+1) M=CN f n M+Gq (f n) M:=rfl;have j:A_ f (n+1) M=A_ f n M+Dg (f n) M:=rfl;rw[i,j];by_cases z:f n=nought
  ·rw[z,Ku.1,Ku.2,Int.add_zero,Int.add_zero];rcases g with ⟨a,b,c⟩ | ⟨a,w,d,nw⟩
   ·refine .inl ⟨a,b,λw d=>?_⟩;by_cases e:w=n
    ·rw[e];exact z
    ·exact c w (by omega)
   ·exact .inr ⟨a,w,by omega,nw⟩
  ·have p:=X8o (M:=M) (h n (by omega)) z;rcases g with ⟨a,b,c⟩ | ⟨a,w,d,nw⟩
   ·rw[a,b,Rj,Rj];exact .inr ⟨p,n,by omega,z⟩
   ·exact .inr ⟨a.add p,n,by omega,z⟩
variable{f:Nat->A5}{n:Nat}
theorem vK(h:∀w,w<n->Fy (f w))(nz:∃w,w<n/\f w≠nought):Pos (CN f n M) (A_ f n M):=by
 rcases mV (M:=M) n h with ⟨_,_,c⟩ | ⟨p,_⟩
 ·obtain⟨w,b,a⟩:=nz;exact absurd (c w b) a
 ·exact p
theorem X5t{t r:Int}(p:Pos t r):t*t-2*r*r≠0:=λe=>by
 obtain⟨rfl,rfl⟩:=JZ (show t*t=2*r*r by omega);exact Pos.zero p
def VL (f g:Nat->A5)(n:Nat)(x y z M:Int):Prop:=CN g n M*z=x*CN f n M+2*y*A_ f n M/\A_ g n M*z=x*A_ f n M+y*CN f n M
structure Sh (f g:Nat->A5) (n:Nat) (x y z:Int):Prop where
 pos:0<z
 cop:J_ x y z
 eq:∃M0,∀M,M0<=M->VL f g n x y z M
def nU (p q n p' q' n' x y z:Int):Prop:=0<z/\J_ x y z/\p*(z*n')=(x*p'+2*y*q')*n/\q*(z*n')=(x*q'+y*p')*n
variable{g:Nat->A5}{x y z:Int}
theorem Sh.of{ux uy uz hx hy hz:Int}(hu:He g n ux uy uz)(hh:He f n hx hy hz)(o:nU ux uy uz hx hy hz x y z):Sh f g n x y z:=by
 obtain⟨p,co,k,j⟩:=o;obtain⟨m,s,i⟩:=bound (f:=f) n;obtain⟨h,t,l⟩:=bound (f:=g) n;refine⟨p,co,max m h,λM u=>?_⟩;obtain⟨c1,c2⟩:=hu.eq M (by omega) λw a=>by have:=l w a;omega
 obtain⟨d1,d2⟩:=hh.eq M (by omega) λw a=>by have:=i w a;omega
 have r:p2 M*p2 M≠0:=NP (Es _) (Es _);have e:uz*hz≠0:=NP (by have:=hu.pos;omega) (by have:=hh.pos;omega);unfold VL;generalize CN g n M=Tg at *;generalize A_ g n M=Rg at *;generalize CN f n M=Tf at *;generalize A_ f n M=Rf at *;generalize p2 M*p2 M=q at *;constructor
 ·apply can e;have b:uz*hz*(Tg*z)=(Tg*uz)*(z*hz):=by grind
  have c:uz*hz*(x*Tf+2*y*Rf)=(x*(Tf*hz)+2*y*(Rf*hz))*uz:=by grind
  rw[b,c,<-c1,<-d1,<-d2];have d:ux*q*(z*hz)=q*(ux*(z*hz)):=by grind
  rw[d,k];grind
 ·apply can e;have b:uz*hz*(Rg*z)=(Rg*uz)*(z*hz):=by grind
  have c:uz*hz*(x*Rf+y*Tf)=(x*(Rf*hz)+y*(Tf*hz))*uz:=by grind
  rw[b,c,<-c2,<-d1,<-d2];have d:uy*q*(z*hz)=q*(uy*(z*hz)):=by grind
  rw[d,j];grind
theorem Y6z{a b T R:Int}(n:T*T-2*R*R≠0)(h1:a*T+2*b*R=0)(h2:a*R+b*T=0):a=0/\b=0:=by
 constructor
 ·have:a*(T*T-2*R*R)=0:=by grind
  rcases NK.mp this with h | h
  ·exact h
  ·exact absurd h n
 ·have:b*(T*T-2*R*R)=0:=by grind
  rcases NK.mp this with h | h
  ·exact h
  ·exact absurd h n
theorem Sh.same{f' g':Nat->A5}{x' y' z':Int}(a:Sh f g n x y z)(b:Sh f' g' n x' y' z')(af:∀w,w<n->Fy (f w))(nz:∃w,w<n/\f w≠nought)(ef:∃M0,∀M,M0<=M->CN f n M=CN f' n M/\A_ f n M=A_ f' n M)(eg:∃M0,∀M,M0<=M->CN g n M=CN g' n M/\A_ g n M=A_ g' n M):x=x'/\y=y'/\z=z':=by
 obtain⟨e,p⟩:=a.eq;obtain⟨c,o⟩:=b.eq;obtain⟨h,r⟩:=ef;obtain⟨d,k⟩:=eg;have k1:e<=max (max e c) (max h d):=by omega
 have k2:c<=max (max e c) (max h d):=by omega
 have i:h<=max (max e c) (max h d):=by omega
 have j:d<=max (max e c) (max h d):=by omega
 generalize max (max e c) (max h d)=M at k1 k2 i j;obtain⟨t,u⟩:=p M k1;obtain⟨l,q⟩:=o M k2;obtain⟨c1,c2⟩:=r M i;obtain⟨d1,d2⟩:=k M j;have m:=X5t (vK (M:=M) af nz);rw[<-c1,<-c2,<-d1]at l;rw[<-c1,<-c2,<-d2]at q;generalize CN g n M=Tg at *;generalize A_ g n M=Rg at *;generalize CN f n M=Tf at *;generalize A_ f n M=Rf at *;obtain⟨v,s⟩:=Y6z (a:=x*z'-x'*z) (b:=y*z'-y'*z) m (by grind) (by grind);exact Low.unique a.pos b.pos a.cop b.cop (by omega) (by omega)
theorem Sh.one:Sh f f n 1 0 1:=⟨by decide,(by unfold J_;decide),0,λM _=>⟨by omega,by omega⟩⟩
theorem Sh.none(h:∀w,w<n->g w=nought):Sh f g n 0 0 1:=by
 have e:∀M,CN g n M=0/\A_ g n M=0:=λM=>by
  rcases mV (f:=g) (M:=M) n (λw c=>by rw[h w c];exact⟨Ln 0,.inl rfl⟩) with ⟨a,b,_⟩ | ⟨_,w,c,nw⟩
  ·exact⟨a,b⟩
  ·exact absurd (h w c) nw
 exact⟨by decide,(by unfold J_;decide),0,λM _=>⟨by rw[(e M).1];omega,by rw[(e M).2];omega⟩⟩
theorem X7o(h:He f n x y z)(af:∀w,w<n->Fy (f w))(nz:∃w,w<n/\f w≠nought):Pos x y:=by
 obtain⟨M,a,b⟩:=bound (f:=f) n;obtain⟨c,d⟩:=h.eq M a b;have p:=vK (M:=M) af nz;rw[<-Pos.scale (k:=p2 M*p2 M) (Ht (O7 _) (O7 _)),Jb _ x,Jb _ y,c,d,Jb,Jb (A_ f n M),Pos.scale h.pos];exact p
end Lq
set_option maxHeartbeats 1000000
namespace Ci
open L2 Am Pc Ba Mx Hr Hw
open Ai (top Bs Uh Ce BR Bx Sum Vb PJ EY WW lK nT)
variable{x h y g:Int}
theorem Iv{N:Int}(hh:0<=h)(hg:0<=g)(h1:h<=N)(h2:g<=N):Dy x h y g↔x*p2 (N-h)=y*p2 (N-g):=by
 unfold Dy;have c:=Ju hh h1;have d:=Ju hg h2;have i:=Es h;have e:=Es g;have k:=Es (N-h);have j:=Es (N-g);have f:=Es N;constructor
 ·intro z;have:(x*p2 (N-h))*(p2 h*p2 g)=(y*p2 (N-g))*(p2 h*p2 g):=by
   have a:(x*p2 (N-h))*(p2 h*p2 g)=(x*p2 g)*p2 N:=by rw[c];grind
   have b:(y*p2 (N-g))*(p2 h*p2 g)=(y*p2 h)*p2 N:=by rw[d];grind
   rw[a,b,z]
  exact Jd (NP i e) this
 ·intro z;have:(x*p2 g)*p2 N=(y*p2 h)*p2 N:=by
   have a:(x*p2 (N-h))*(p2 h*p2 g)=(x*p2 g)*p2 N:=by rw[c];grind
   have b:(y*p2 (N-g))*(p2 h*p2 g)=(y*p2 h)*p2 N:=by rw[d];grind
   rw[<-a,<-b,z]
  exact Jd f this
structure Ny (a b c d h a' b' c' d' h' x y z u g:Int):Prop where
 amt:Fx x y z u g
 same:CG (a*a'-d*b'-c*c'-b*d') (b*a'+a*b'-d*c'-c*d') (c*a'+b*b'+a*c'-d*d') (d*a'+c*b'+b*c'+a*d') (h+h') x y z u g
 le:g<=h+h'
theorem X1y{x y z:A5}(p:nT x y z):Ny x.1.1 x.1.2.1 x.1.2.2.1 x.1.2.2.2 x.2 y.1.1 y.1.2.1 y.1.2.2.1 y.1.2.2.2 y.2 z.1.1 z.1.2.1 z.1.2.2.1 z.1.2.2.2 z.2:=by
 refine⟨p.amt,?_,p.le⟩;have s:=p.same;have b:x.1.1*y.1.1-x.1.2.1*y.1.2.2.2-x.1.2.2.1*y.1.2.2.1-x.1.2.2.2*y.1.2.1=x.1.1*y.1.1-x.1.2.2.2*y.1.2.1-x.1.2.2.1*y.1.2.2.1-x.1.2.1*y.1.2.2.2:=by grind
 have c:x.1.1*y.1.2.1+x.1.2.1*y.1.1-x.1.2.2.1*y.1.2.2.2-x.1.2.2.2*y.1.2.2.1=x.1.2.1*y.1.1+x.1.1*y.1.2.1-x.1.2.2.2*y.1.2.2.1-x.1.2.2.1*y.1.2.2.2:=by grind
 have d:x.1.1*y.1.2.2.1+x.1.2.1*y.1.2.1+x.1.2.2.1*y.1.1-x.1.2.2.2*y.1.2.2.2=x.1.2.2.1*y.1.1+x.1.2.1*y.1.2.1+x.1.1*y.1.2.2.1-x.1.2.2.2*y.1.2.2.2:=by grind
 have a:x.1.1*y.1.2.2.2+x.1.2.1*y.1.2.2.1+x.1.2.2.1*y.1.2.1+x.1.2.2.2*y.1.1=x.1.2.2.2*y.1.1+x.1.2.2.1*y.1.2.1+x.1.2.1*y.1.2.2.1+x.1.1*y.1.2.2.2:=by grind
 rw[b,c,d,a]at s;exact s
noncomputable abbrev T3 (x y z:Int):HO:=.tup [.int x,.int y,.int z]
def uh (K:U0):Sp:=λvs H Q _=>∃(p:Y0) (a b c d h:Int),vs=[.ref p]/\Ce K H p ((a,b,c,d),h)/\∀(r:Y0) (H':Hp),Same H H'->H' r=some (T5 a (-d) (-c) (-b) h)->Q (.ref r) H'
def M7:Sp:=λvs H Q _=>∃a b:Int,vs=[.int a,.int b]/\0<=a/\0<=b/\Q (.int (Int.gcd a b:Nat)) H
def WX:Sp:=λvs H Q _=>∃t r b:Int,vs=[.int t,.int r,.int b]/\b≠0/\Sz 9000 b/\∀(p:Y0) (H':Hp) (x y z:Int),Same H H'->H' p=some (T3 x y z)->Low t r b x y z->Q (.ref p) H'
def KR (K:U0):Sp:=λvs H Q _=>∃(p:Y0) (a b c d h:Int),vs=[.ref p]/\Ah K H p [.int a,.int b,.int c,.int d,.int h]/\c=0/\d=-b/\0<=h/\h<=8000/\∀(r:Y0) (H':Hp) (x y z:Int),Same H H'->H' r=some (T3 x y z)->Low a b (p2 h) x y z->Q (.ref r) H'
def FT (K:U0):Sp:=λvs H Q _=>∃(l:Y0) (ps:U3) (f:Nat->A5) (c n m:Nat),vs=[.ref l]/\Bx K H l ps f c n m/\c<=6/\n<=10000/\m<=1500/\∀(r:Y0) (H':Hp) (x y z:Int),Same H H'->H' r=some (T3 x y z)->He f (2^c) x y z->Sz (2*n+4*m+70) x->Sz (2*n+4*m+70) y->Sz (2*m+1) z->Q (.ref r) H'
theorem Xw(h:Int):(1:Int)*2^h.toNat=p2 h:=by unfold p2;rw[Rb]
variable{n:Nat}
theorem oM(hn:h.toNat+1<=n):Sz n (p2 h):=(Uh h.toNat).mono hn
theorem QK(i:Int):(if i<0 then -i else i)=(i.natAbs:Int):=by split<;>omega
theorem X4a(t r b:Int):Int.gcd ((Int.gcd (b.natAbs:Int) (r.natAbs:Int):Nat):Int) (t.natAbs:Int)=Nat.gcd (Nat.gcd t.natAbs r.natAbs) b.natAbs:=by
 simp only[Int.gcd,Rq];exact Y5w _ _ _
variable{a b:Int}
theorem _G(h0:0<=a)(hb:0<b):Int.gcd b (a%b)=Int.gcd a b:=by
 have e:(a%b).natAbs=a.natAbs%b.natAbs:=by
  obtain⟨m,rfl⟩:∃m:Nat,a=m:=⟨a.natAbs,by omega⟩;obtain⟨n,rfl⟩:∃n:Nat,b=n:=⟨b.natAbs,by omega⟩;rw[<-Int.natCast_emod,Rq,Rq,Rq]
 show Nat.gcd b.natAbs (a%b).natAbs=Nat.gcd a.natAbs b.natAbs;rw[e,Vj a.natAbs,Nat.gcd_rec b.natAbs a.natAbs,Vj]
theorem Wy{M:Int}(z:Sz n a)(h0:0<=h):Sz (n+M.toNat+1) (a*p2 (M-h)):=(z.mul (Uh (M-h).toNat)).mono (by omega)
theorem Xv{x:A5}{M:Int}(z:Gw n x.1.1 x.1.2.1 x.1.2.2.1 x.1.2.2.2)(h0:0<=x.2):Sz (2*(n+M.toNat+1)+3) (Gq x M)/\Sz (2*(n+M.toNat+1)+3) (Dg x M):=by
 have a:=Wy (M:=M) z.z1 h0;have b:=Wy (M:=M) z.z2 h0;have c:=Wy (M:=M) z.z3 h0;have d:=Wy (M:=M) z.z4 h0;constructor
 ·exact((((a.mul a).add (b.mul b)).add (c.mul c)).add (d.mul d)).mono (by omega)
 ·exact((((a.mul b).add (b.mul c)).add (c.mul d)).sub (d.mul a)).mono (by omega)
theorem RK{f:Nat->A5}{n:Nat}{M:Int}:∀i:Nat,(∀w,w<i->Gw n (f w).1.1 (f w).1.2.1 (f w).1.2.2.1 (f w).1.2.2.2/\0<=(f w).2)->Sz (2*(n+M.toNat+1)+3+i) (CN f i M)/\Sz (2*(n+M.toNat+1)+3+i) (A_ f i M)
 | 0,_=>⟨Kh _,Kh _⟩
 | i+1,h=>by
  obtain⟨a,b⟩:=RK i λw e=>h w (by omega);obtain⟨c,d⟩:=Xv (M:=M) (h i (by omega)).1 (h i (by omega)).2;exact⟨(a.add c).mono (by omega),(b.add d).mono (by omega)⟩
theorem wC{k:Int}(h:0<k):a.natAbs<=(a*k).natAbs:=by rw[Hv];exact Nat.le_mul_of_pos_right _ (by omega)
structure Qj (f:Nat->A5) (m n i:Nat) (a b c d h:Int):Prop where
 h0:0<=h
 hm:h<=2*m
 ta:a*p2 (4*m-h)=CN f i (2*m)
 tb:b*p2 (4*m-h)=A_ f i (2*m)
 tc:c=0
 td:d=-b
 sz:Gw (2*n+4+i*(4*m+2)) a b c d
variable{f:Nat->A5}{m:Nat}{c d z:Int}
theorem Qj.step{i:Nat}{A B C D hh u a' b' c' d' h':Int}(t:Qj f m n i a b c d h)(e:f i=((A,B,C,D),hh))(g0:0<=hh)(gm:hh<=m)(pr:Ny A B C D hh A (-D) (-C) (-B) hh x y z u g)(sm:Sum a b c d h x y z u g a' b' c' d' h')(sz:Gw (2*n+4+i*(4*m+2)+h.toNat+g.toNat+2) a' b' c' d'):Qj f m n (i+1) a' b' c' d' h':=by
 have h0:=t.h0;have hm:=t.hm;have o:=pr.amt.nn;have V:=pr.le;have j:=sm.amt.nn;have W:=sm.le;have s:=pr.same;have Q:=(Iv (N:=4*m) (by omega) o (by omega) (by omega)).mp s.e1;have M:=(Iv (N:=4*m) (by omega) o (by omega) (by omega)).mp s.e2;have S:=(Iv (N:=4*m) (by omega) o (by omega) (by omega)).mp s.e3;have J:=(Iv (N:=4*m) (by omega) o (by omega) (by omega)).mp s.e4;have q:=sm.same;have O:=(Iv (N:=4*m) (by omega) j (by omega) (by omega)).mp q.e1;have K:=(Iv (N:=4*m) (by omega) j (by omega) (by omega)).mp q.e2;have L:=(Iv (N:=4*m) (by omega) j (by omega) (by omega)).mp q.e3;have T:=(Iv (N:=4*m) (by omega) j (by omega) (by omega)).mp q.e4;have v:p2 (4*m-(hh+hh))=p2 (2*m-hh)*p2 (2*m-hh):=by rw[<-H_ (by omega) (by omega)];congr 1;omega
 have p:p2 (4*m-h)=p2 (4*m-(h+g))*p2 g:=by rw[<-H_ (by omega) (by omega)];congr 1;omega
 have l:p2 (4*m-g)=p2 (4*m-(h+g))*p2 h:=by rw[<-H_ (by omega) (by omega)];congr 1;omega
 have r:=Uk (f i) (2*m);have k:=Uv (f i) (2*m);rw[e]at r k;simp only at r k;have F:=Es (4*m-h');have ta:=t.ta;have tb:=t.tb;have tc:=t.tc;have td:=t.td;have I:x*p2 (4*m-g)=Gq ((A,B,C,D),hh) (2*m):=by rw[<-Q,r,v];unfold tt;grind
 have G:y*p2 (4*m-g)=Dg ((A,B,C,D),hh) (2*m):=by rw[<-M,k,v];unfold rr;grind
 have H:z*p2 (4*m-g)=0:=by rw[<-S];grind
 have R:u*p2 (4*m-g)=-Dg ((A,B,C,D),hh) (2*m):=by rw[<-J,k,v];unfold rr;grind
 have P:a'*p2 (4*m-h')=a*p2 (4*m-h)+x*p2 (4*m-g):=by rw[<-O,p,l];grind
 have w:b'*p2 (4*m-h')=b*p2 (4*m-h)+y*p2 (4*m-g):=by rw[<-K,p,l];grind
 have E:c'*p2 (4*m-h')=c*p2 (4*m-h)+z*p2 (4*m-g):=by rw[<-L,p,l];grind
 have U:d'*p2 (4*m-h')=d*p2 (4*m-h)+u*p2 (4*m-g):=by rw[<-T,p,l];grind
 refine⟨j,by omega,?_,?_,?_,?_,?_⟩
 ·rw[P,I,ta,<-e];rfl
 ·rw[w,G,tb,<-e];rfl
 ·rw[H,tc]at E;rcases NK.mp (show c'*p2 (4*m-h')=0 by rw[E];omega) with z | z
  ·exact z
  ·exact absurd z F
 ·apply Jd F;rw[U,R,td,Vf b',w,G];generalize Dg ((A,B,C,D),hh) (2*m)=N;rw[Vf];omega
 ·refine sz.mono ?_;rw[Nat.add_mul];omega
theorem Qj.heft{N:Nat}(t:Qj f m n N a b c d h)(hf:∀w,w<N->(f w).2<=m)(l:Low a b (p2 h) x y z):He f N x y z:=by
 refine He.of (M:=2*m) l.pos l.cop (by omega) (λw e=>by have:=hf w e;omega) ?_;obtain⟨c1,c2⟩:=Low.cr l;have h0:=t.h0;have hm:=t.hm;have w:p2 (2*m)*p2 (2*m)=p2 (4*m-h)*p2 h:=by rw[<-H_ (by omega) (by omega),<-H_ (by omega) (by omega)];congr 1;omega
 unfold Fl;rw[w,<-t.ta,<-t.tb];constructor
 ·have:x*(p2 (4*m-h)*p2 h)=(x*p2 h)*p2 (4*m-h):=by grind
  rw[this,c1];grind
 ·have:y*(p2 (4*m-h)*p2 h)=(y*p2 h)*p2 (4*m-h):=by grind
  rw[this,c2];grind
section
variable {P:U8}{w:W1}{K:U0}{mg:U4}{base:Heap}{k:Nat}{h:Heap}
theorem Y4s(F:Aa K "mirror" (top 27) .none)(X:K.In h)(G:Ng h mg):Ag P w K mg base (k+1) "mirror" ["one"] (uh K):=by
 refine F.cal X G ["one"] λf H vs Q E e h=>?_;obtain⟨p,a,b,c,d,h,rfl,hp,q⟩:=h;have S:Ah K H p [.int a,.int b,.int c,.int d,.int h]:=hp;refine⟨_,(@Aj _ _ _ (Ay (@Fw _ _ _ _ _ (Ab (Al Az (pv 0) Ad (λ_ _=>rfl)) (Ab (Np Nu (Al Az (pv 0) Ad (λ_ _=>rfl))) (Ab (Np Nu (Al Az (pv 0) Ad (λ_ _=>rfl))) (Ab (Np Nu (Al Az (pv 0) Ad (λ_ _=>rfl))) (Ab (Al Az (pv 0) Ad (λ_ _=>rfl)) Ae)))))))),?_⟩;try dsimp only[Bg]
 refine⟨_,U,p,_,_,_,U,U,S,U,_,U,p,_,_,_,U,U,S,U,_,U,_,U,p,_,_,_,U,U,S,U,_,U,_,U,p,_,_,_,U,U,S,U,_,U,_,U,p,_,_,_,U,U,S,U,t5,λr e=>?_⟩;exact q r _ (Ax e _) Ao
theorem X6i(F:Aa K "common_divisor" (top 15) .none)(X:K.In h)(G:Ng h mg):Ag P w K mg base (k+1) "common_divisor" ["one","other"] M7:=by
 refine F.cal X G ["one","other","rest"] λf H vs Q E s h=>?_;obtain⟨a,b,rfl,j,hb,q⟩:=h
 refine⟨_,(@Ak _ _ _ _ _ (lH PassesOwn.never (Bq Jh (pv 1) Ad (Ac _))
   (@Ak _ _ _ _ _ (@Bd _ _ 2 _ _ _ _ f rfl (Or.inl rfl) (Aq Jj (pv 0) (pv 1)) rfl (.inl rfl))
   (@Ak _ _ _ _ _ (@Bd _ _ 0 _ _ _ _ f rfl (Or.inl rfl) (pv 1) rfl (.inl rfl))
   (@Aj _ _ _ (@Bd _ _ 1 _ _ _ _ f rfl (Or.inl rfl) (pv 2) rfl (.inl rfl))))))
  (@Aj _ _ _ (Ay (pv 0)))),?_⟩
 try dsimp only[Bg]
 refine Y6v (λσ H'=>H'=H/\∃a' b' r,σ=[some (.int a'),some (.int b'),r]/\0<=a'/\0<=b'/\Int.gcd a' b'=Int.gcd a b)
  (λσ _=>match σ with | [_,some (.int b'),_]=>b'.toNat | _=>0) ⟨U,a,b,none,U,j,hb,U⟩ ?_ ?_
 ·rintro σ H' ⟨rfl,a',b',r,rfl,g,d,e⟩;refine⟨_,U,U,_,U,Ks (λc=>?_) (λc=>?_)⟩
  ·refine⟨_,U,_,U,_,_,U,U,(by show 0<b';omega),?_⟩;refine⟨_,U,_,U,⟨U,b',a'%b',some (.int (a'%b')),U,d,Pq _ c,?_⟩,?_⟩
   ·rw[_G g (by omega)];exact e
   ·show (a'%b').toNat<b'.toNat;have:=Yl a' (show 0<b' by omega);have:=Pq a' c;omega
  ·subst c;refine⟨_,U,?_⟩;rw[Int.gcd_zero_right]at e;have i:(a':Int)=(Int.gcd a b:Nat):=by omega
   show Q (.int a') H';rw[i];exact q
 ·rintro σ H1 p t o ⟨v,e,m,k1,n,l⟩;exact⟨v,e,m,k1,n,o _ _ l⟩
theorem zJ{D:Y0}{oc:W2}{od:W5}{sl:W4}{t0 t1:Tok}(l:K.lookup D=some ⟨oc,od,.seq #[.int 0 t0,.int 1 t1] n,sl⟩):J4 K "share" (top 14) (.ref D) ["top","root","bottom"]:=by
 intro kV e g h f ct s us X d;match us,d with
 | [a,b,c],_=>exact BindsTo.of_defaults rfl (X _ _ l) rfl rfl rfl
theorem Y8a{dV:W2}(F:Aa K "share" (top 14) dV)(bi:J4 K "share" (top 14) dV ["top","root","bottom"])(X:K.In h)(G:Ng h mg)(B:Bs mg)(c5:Ag P w K mg base k "is_whole" ["thing"] K5)(cJ:Ag P w K mg base k "common_divisor" ["one","other"] M7):
  Ag P w K mg base (k+1) "share" ["top","root","bottom"] WX:=by
 refine F.cal X G ["top","root","bottom","common"] (bi:=bi) λn H vs Q E e h=>?_;obtain⟨t,r,b,rfl,hb,s,q⟩:=h
 refine⟨_,(@Ak _ _ _ _ _ (CQ (E_ (PW.pt (O9 (Dv (Av c5 e rfl (Ab (pv 0) Ae))) (O9 (Dv (Av c5 e rfl (Ab (pv 1) Ae))) (QW (Dv (Av c5 e rfl (Ab (pv 2) Ae))))))))
   (@Aj _ _ _ Gh)
   CT)
  (@Ak _ _ _ _ _ (CQ (Bq Di (pv 2) Ad (Ac _))
   (@Aj _ _ _ Gh)
   CT)
  (@Ak _ _ _ _ _ (@Bd _ _ 3 _ _ _ _ n rfl (Or.inl rfl) (Av cJ e rfl (Ab (Av cJ e rfl (Ab (Cm Wc rfl B.abs boot_abs (Ab (pv 2) Ae)) (Ab (Cm Wc rfl B.abs boot_abs (Ab (pv 1) Ae)) Ae))) (Ab (Cm Wc rfl B.abs boot_abs (Ab (pv 0) Ae)) Ae))) rfl (.inl rfl))
  (@K4 _ _ _ _ _ (CQ (Bq Nk (pv 2) Ad (Ac _))
   (@Aj _ _ _ (@Bd _ _ 3 _ _ _ _ n rfl (Or.inl rfl) (Np Nu (pv 3)) rfl (.inl rfl)))
   CT)
  (@Aj _ _ _ (Ay (@Fw _ _ _ _ _ (Ab (Aq Uw (pv 0) (pv 3)) (Ab (Aq Uw (pv 1) (pv 3)) (Ab (Aq Uw (pv 2) (pv 3)) Ae)))))))))),?_⟩
 try dsimp only[Bg]
 refine⟨_,U,_,U,_,U,DQ ⟨_,U,_,U,_,U,DQ ⟨_,U,_,U,_,U,Bc ?_⟩⟩⟩;refine⟨_,U,U,_,U,G4 (λc=>absurd c hb) (λ_=>?_)⟩;refine⟨_,U,_,U,_,U,_,U,_,_,U,(by rw[QK];omega),(by rw[QK];omega),_,U,_,U,_,_,U,by omega,(by rw[QK];omega),?_⟩;rw[QK,QK,QK,X4a];generalize hG:Nat.gcd (Nat.gcd t.natAbs r.natAbs) b.natAbs=g;have l:∀c:Int,c=(if b<0 then -(g:Int) else g)->(Q6 (Qy (G_ (M5 (rI Jp λi j=>.int (i.fdiv j)) (Gi 0) (Gi 3)) (G_ (M5 (rI Jp λi j=>.int (i.fdiv j)) (Gi 1) (Gi 3)) (G_ (M5 (rI Jp λi j=>.int (i.fdiv j)) (Gi 2) (Gi 3)) KD)))))
   { nx:=λ_ H'=>Q .non H',rt:=Q} [some (.int t),some (.int r),some (.int b),some (.int c)] H:=by
  intro c m;have o:0<g:=by rw[<-hG];exact rm (by omega)
  have u:g<=b.natAbs:=by rw[<-hG];exact Nat.gcd_le_right _ (by omega)
  have d:c≠0:=by rw[m];split<;>omega
  have a:Sz 9000 c:=s.le (by rw[m];split<;>omega);have f:=X3q (t:=t) (r:=r) hb hG.symm m;refine⟨_,U,_,U,_,_,U,U,⟨d,a⟩,_,U,_,U,_,_,U,U,⟨d,a⟩,_,U,_,U,_,_,U,U,⟨d,a⟩,t3,λp hp=>?_⟩;exact q p _ _ _ _ (Ax hp _) Ao f
 refine⟨λσ H'=>H'=H/\σ=[some (.int t),some (.int r),some (.int b),some (.int (if b<0 then -(g:Int) else g))],⟨_,U,_,_,U,U,_,U,BX (λc=>?_) (λc=>?_)⟩,?_⟩
 ·refine⟨_,U,_,U,U,?_⟩;rw[if_pos c];rfl
 ·refine⟨U,?_⟩;rw[if_neg c];rfl
 rintro σ H' ⟨rfl,rfl⟩;exact l _ rfl
theorem X2v(F:Aa K "real_share" (top 29) .none)(X:K.In h)(G:Ng h mg)(cQ:Ag P w K mg base k "share" ["top","root","bottom"] WX):Ag P w K mg base (k+1) "real_share" ["one"] (KR K):=by
 refine F.cal X G ["one"] λl H vs Q E i h=>?_;obtain⟨p,a,b,c,d,h,rfl,S,g,j,n,m,q⟩:=h
 refine⟨_,(@Ak _ _ _ _ _ (CQ (PW.pt (Fv (Bq Jh (Al Az (pv 0) Ad (λ_ _=>rfl)) Ad (Ac _)) (Iw (Bq Jh (Al Az (pv 0) Ad (λ_ _=>rfl)) (Np Nu (Al Az (pv 0) Ad (λ_ _=>rfl))) (Ac _)))))
   (@Aj _ _ _ Gh)
   CT)
  (@Aj _ _ _ (Ay (Av cQ i rfl (Ab (Al Az (pv 0) Ad (λ_ _=>rfl)) (Ab (Al Az (pv 0) Ad (λ_ _=>rfl)) (Ab (Aq K3 Ad (Al Az (pv 0) Ad (λ_ _=>rfl))) Ae))))))),?_⟩
 try dsimp only[Bg]
 refine⟨_,U,p,_,_,_,U,U,S,U,U,_,U,Ks (λz=>absurd g z) (λ_=>?_)⟩;refine⟨_,U,p,_,_,_,U,U,S,U,_,U,p,_,_,_,U,U,S,U,_,U,U,_,U,Ks (λz=>absurd j z) (λ_=>?_)⟩;refine⟨_,U,p,_,_,_,U,U,S,U,_,U,p,_,_,_,U,U,S,U,_,U,p,_,_,_,U,U,S,U,_,_,U,U,⟨1,N7,by omega,by omega⟩,a,b,p2 h,?_,YB (yH h),oM (by omega),λr H' x y z s' e f=>q r H' x y z s' e f⟩;show [V.int a,V.int b,V.int (1*2^h.toNat)]=_;rw[Xw]
theorem X3b{aZ:Y0}(gZ:mg "NOUGHT"=some (.ref aZ))(kZ:∀H,Ah K H aZ ([0,0,0,0,0].map V.int))(F:Aa K "heft" (top 48) .none)(X:K.In h)(G:Ng h mg)(cK:Ag P w K mg base k "plus" ["one","other"] (PJ K))(eQ:Ag P w K mg base k "times" ["one","other"] (lK K))(eK:Ag P w K mg base k "mirror" ["one"] (uh K))(dI:Ag P w K mg base k "real_share" ["one"] (KR K)):Ag P w K mg base (k+1) "heft" ["board"] (FT K):=by
 refine F.cal X G ["board","total","one"] λO H vs Q E B h=>?_;obtain⟨l,ps,f,c,n,m,rfl,j,c6,n1,m1,q⟩:=h;have p6:=HJ c6;have lps:(ps.map V.ref).length=2^c:=by rw[BJ,j.len]
 refine⟨_,(@Ak _ _ _ _ _ (@Bd _ _ 1 _ _ _ _ O rfl (Or.inl rfl) (Jw (v:=.ref aZ) rfl gZ rfl) rfl (.inl rfl))
  (@Ak _ _ _ _ _ (Jv PassesOwn.never rfl (JC (pv 0)) (Ck (i:=2) O rfl (Or.inl rfl))
   (@Aj _ _ _ (@Bd _ _ 1 _ _ _ _ O rfl (Or.inl rfl) (Av cK B rfl (Ab (pv 1) (Ab (Av eQ B rfl (Ab (pv 2) (Ab (Av eK B rfl (Ab (pv 2) Ae)) Ae))) Ae))) rfl (.inl rfl))))
  (@Aj _ _ _ (Ay (Av dI B rfl (Ab (pv 1) Ae)))))),?_⟩
 try dsimp only[Bg]
 refine⟨_,U,l,U,⟨_,Af.of j.lst⟩,Ur (K:=K) (a:=l) (xs:=ps.map V.ref) (λi σ H'=>Same H H'/\∃(p:Y0) (a b c d h:Int) (v:Option V),Ah K H' p [.int a,.int b,.int c,.int d,.int h]/\Qj f m n i a b c d h/\σ=[some (.ref l),some (.ref p),v]) ⟨Same.refl _,aZ,0,0,0,0,0,none,kZ H,⟨Ln 0,by omega,?_,?_,U,U,?_⟩,U⟩ (λi σ H' _ e=>e.1.seq (Af.of j.lst)) ?_ ?_⟩
 ·show 0*p2 (4*m-0)=0;omega
 ·show 0*p2 (4*m-0)=0;omega
 ·have t:Sz (2*n+4+0*(4*m+2)) 0:=Kh _;exact⟨t,t,t,t⟩
 ·rintro i x σ H1 W ⟨C,p,a,b,c',d,h,v,SP,T,rfl⟩;rw[Dw]at W;obtain⟨R,hp,rfl⟩:=GZ.mp W;have hi:i<2^c:=by
   have:=(Fb.mp hp).1;rw[j.len]at this;exact this
  have J:=(j.vals i R hp).same C;have ok:=j.ok i hi;have im:i*(4*m+2)<=63*(4*m+2):=Nat.mul_le_mul_right _ (by omega);rcases hf:f i with ⟨⟨A1,B1,C1,D1⟩,hh⟩;rw[hf]at J ok;have o0:0<=hh:=ok.amt.nn;have S:hh<=m:=ok.le;have s:Gw n A1 B1 C1 D1:=ok.sz;have N:=T.h0;have tm:=T.hm;refine⟨_,U,_,U,_,U,R,_,_,_,_,_,U,J,λr H2 o I=>?_⟩;refine⟨R,r,((A1,B1,C1,D1),hh),((A1,-D1,-C1,-B1),hh),n,n,m,m,U,J.same o,Ce.of I,ok,⟨⟨s.z1,s.z4.neg,s.z3.neg,s.z2.neg⟩,⟨o0,by have:=ok.amt.odd;simp only at this ⊢;omega⟩,S⟩,by omega,λr2 H3 zz Y e3 L D=>?_⟩;obtain⟨⟨x,y,z,u⟩,g⟩:=zz;have pr:=X1y L;have pz:Gw (n+n+4) x y z u:=D.sz;have gn:=pr.amt.nn;have gl:=pr.le;refine⟨2*n+4+i*(4*m+2),p,r2,a,b,c',d,h,x,y,z,u,g,⟨U,(o.trans Y).tup SP,Ah.of e3,N,gn,by omega,by omega,T.sz,pz.mono (by omega)⟩,λr3 H4 x' y' z' u' g' s4 Z sm sz=>?_⟩;exact⟨(C.trans o).trans (Y.trans s4),r3,_,_,_,_,_,_,Ah.of Z,T.step hf o0 S pr sm sz,U⟩
 ·rintro σ H1 ⟨C,p,a,b,c',d,h,v,SP,T,rfl⟩;rw[lps]at T;have N:=T.h0;have tm:=T.hm;have cm:2^c*(4*m+2)<=64*(4*m+2):=Nat.mul_le_mul_right _ p6;refine⟨_,U,p,a,b,c',d,h,U,SP,T.tc,T.td,N,by omega,λr H2 x y z o I lo=>?_⟩;obtain⟨z1,z2,z3⟩:=lo.sizes;obtain⟨y1,y2⟩:=RK (f:=f) (n:=n) (M:=2*m) (2^c) λw A=>⟨(j.ok w A).sz,(j.ok w A).amt.nn⟩;have ha:Sz (2*n+4*m+70) a:=(y1.mono (by omega)).le (by rw[<-T.ta];exact wC (O7 _));have hb:Sz (2*n+4*m+70) b:=(y2.mono (by omega)).le (by rw[<-T.tb];exact wC (O7 _));exact q r H2 x y z (C.trans o) I (T.heft (λw A=>(j.ok w A).le) lo) (ha.le z1) (hb.le z2) ((oM (n:=2*m+1) (h:=h) (by omega)).le z3)
end
end Ci
namespace Ci
open L2 Am Pc Ba Hw
open Lk hiding Qa
open G8 (Mk)
open Jo (ev)
open Ai (top Bs Ce BR Bx Sum Vb PJ Wj lW Qf Mr Ml Qc)
open Bw (L3 Jl Kc)
open DG (Ie layW ZG nW)
def Kd:Sp:=λvs H Q _=>∃(p:Y0) (m:Mk) (n:Nat),vs=[.ref p,.int n]/\H p=some (Bw.T3 m)/\Jl n m/\ev m/\Q .non H
def kJ (K:U0):Sp:=λvs H Q _=>∃(l p:Y0) (ps:U3) (f:Nat->A5) (c n m:Nat) (mk:Mk) (o:Nat),vs=[.ref l,.ref p,.int o]/\Bx K H l ps f c n m/\c<=6/\n<=100000/\m<=10000/\H p=some (Bw.T3 mk)/\Jl c mk/\o<2/\∀(r:Y0) (H':Hp) (qs:U3) (g:Nat->A5),H r=none->Same H H'->Bx K H' r qs g c (n+2*m+2) (m+1)->Eo mk.1 mk.2.1 mk.2.2 (sg o) (2^c) f g->Q (.ref r) H'
def qJ (K:U0):Sp:=λvs H Q _=>∃(l:Y0) (ps:U3) (f:Nat->A5) (c n m:Nat),vs=[.ref l]/\Bx K H l ps f c n m/\c<=6/\∀(b:Bool) (H':Hp),Same H H'->(b=true↔∀i,i<2^c->f i=nought)->Q (.bl b) H'
def lX (K:U0):Sp:=λvs H Q _=>∃(l p:Y0) (ps:U3) (f:Nat->A5) (c n m:Nat) (mk:Mk) (o:Nat),vs=[.ref l,.ref p,.int o]/\Bx K H l ps f c n m/\c<=6/\n<=100000/\m<=10000/\H p=some (Bw.T3 mk)/\Jl c mk/\ev mk/\o<2/\(∃i,i<2^c/\CV mk.1 mk.2.1 mk.2.2 f i≠Bk (f i) (4*(1-o):Nat))/\∀(r:Y0) (H':Hp) (qs:U3) (g:Nat->A5),H r=none->Same H H'->Bx K H' r qs g c (n+2*m+2) (m+1)->Eo mk.1 mk.2.1 mk.2.2 (sg o) (2^c) f g->(∃i,i<2^c/\g i≠nought)->Q (.ref r) H'
variable{l:Y0}
theorem Wf{H H':Hp}(s:Same H H')(h:H' l=none):H l=none:=DG.Wf s h
variable{x y:A5}
theorem sE{t z:A5}{s:Int}(x0:0<=x.2)(y0:0<=y.2)(sm:Sum x.1.1 x.1.2.1 x.1.2.2.1 x.1.2.2.2 x.2 (s*y.1.1) (s*y.1.2.1) (s*y.1.2.2.1) (s*y.1.2.2.2) y.2 t.1.1 t.1.2.1 t.1.2.2.1 t.1.2.2.2 t.2)(rd:Red t.1.1 t.1.2.1 t.1.2.2.1 t.1.2.2.2 (t.2+1) z.1.1 z.1.2.1 z.1.2.2.1 z.1.2.2.2 z.2):Bu s x y z:=by
 have d:0<=t.2:=sm.amt.nn;have g:0<=z.2:=rd.amt.nn;obtain⟨M,k1,k2,c⟩:∃M:Int,x.2+y.2<=M/\t.2+1<=M/\z.2<=M:=⟨max (x.2+y.2) (max (t.2+1) z.2),by omega,by omega,by omega⟩;have e:p2 (M-x.2)=p2 (M-(x.2+y.2))*p2 y.2:=by rw[<-H_ (by omega) y0];congr 1;omega
 have f:p2 (M-y.2)=p2 (M-(x.2+y.2))*p2 x.2:=by rw[<-H_ (by omega) x0];congr 1;omega
 have i:p2 (M-t.2)=2*p2 (M-(t.2+1)):=by
  rw[show M-t.2=(M-(t.2+1))+1 by omega,H_ (by omega) (by decide),show p2 1=2 from rfl,Jb]
 have v1:=xM (x:=((x.1.1*p2 y.2+s*y.1.1*p2 x.2,x.1.2.1*p2 y.2+s*y.1.2.1*p2 x.2,x.1.2.2.1*p2 y.2+s*y.1.2.2.1*p2 x.2,x.1.2.2.2*p2 y.2+s*y.1.2.2.2*p2 x.2),x.2+y.2)) (y:=t) (M:=M) (by show 0<=x.2+y.2;omega) d k1 (by omega) sm.same;have v2:=xM (x:=(t.1,t.2+1)) (y:=z) (M:=M) (by show 0<=t.2+1;omega) g k2 c rd.same;refine Bu.of (M:=M) rd.amt x0 y0 (by omega) (by omega) c ?_;rw[<-v2];have q:∀{a b tt:Int},(a*p2 y.2+s*b*p2 x.2)*p2 (M-(x.2+y.2))=tt*p2 (M-t.2)->2*(tt*p2 (M-(t.2+1)))=a*p2 (M-x.2)+s*(b*p2 (M-y.2)):=λ{a b tt} h=>by
  rw[i]at h;rw[e,f];grind
 exact Iz (q (congrArg (λt:V4=>t.1) v1)) (q (congrArg (λt:V4=>t.2.1) v1)) (q (congrArg (λt:V4=>t.2.2.1) v1)) (q (congrArg (λt:V4=>t.2.2.2) v1))
theorem X6s:l5 x=l5 y↔x=y:=by
 constructor
 ·intro h;unfold l5 at h;simp only[List.cons.injEq,and_true]at h;exact Lk.QJ h
 ·rintro rfl;rfl
theorem R8:l5 x=[0,0,0,0,0]↔x=((0,0,0,0),0):=X6s (y:=((0,0,0,0),0))
def Dl (f:Nat->A5)(i:Nat)(bs:List Bool):Prop:=bs=(List.range i).map λj=>decide (l5 (f j)=[0,0,0,0,0])
variable{f:Nat->A5}
theorem Dl.nil:Dl f 0 []:=rfl
theorem Dl.snoc{i:Nat}{bs:List Bool}(h:Dl f i bs):Dl f (i+1) (bs++[decide (l5 (f i)=[0,0,0,0,0])]):=by
 unfold Dl at *;rw[h,Pr,Dn];rfl
theorem Dl.iff{n:Nat}{bs:List Bool}(h:Dl f n bs):bs.all id=true↔∀i,i<n->f i=((0,0,0,0),0):=by
 unfold Dl at h;subst h;rw[J1];constructor
 ·intro a i hi;have:=a _ (Hu.mpr ⟨i,Fq.mpr hi,U⟩);exact R8.mp (Rp this)
 ·intro a x c;obtain⟨j,b,e⟩:=Hu.mp c;rw[<-e];exact Jc (R8.mpr (a j (Fq.mp b)))
theorem X3t{K:U0}{aZ:Y0}{ps:U3}{fr:L2.St}{H1:Hp}{acc:Y0}{Q:VK}(kZ:∀H,Ah K H aZ ([0,0,0,0,0].map V.int))(hl:H1 l=some (.lst (ps.map V.ref)))(l64:ps.length<=64)(v:BR K H1 ps f)(hacc:H1 acc=none)
  (hd:∀H2 bs,Same H1 H2->H2 acc=some (.lst (bs.map V.bl))->Dl f ps.length bs->Q (.ref acc) H2):Hq (J9 K l) (Bf 0) (M5 (Ja K false) (Gi 0) (tC (.ref aZ))) (none::fr) H1 acc Q:=by
 refine QT (K:=K) (a:=l) (xs:=ps.map V.ref) (fr:=fr) (λi ys H'=>Same H1 H'/\H' acc=some (.lst ys)/\∃bs:List Bool,ys=bs.map V.bl/\Dl f i bs) (by rw[BJ];exact Jy l64) ⟨Ax hacc _,Ao,[],U,.nil⟩ (λi ys H' e=>Af.of (e.1 _ _ hl)) ?_ ?_
 ·rintro i x ys H2 N g j ⟨b,d,bs,rfl,c⟩ h;rw[Dw]at g;obtain⟨p,hp,rfl⟩:=GZ.mp g;refine⟨_,U,p,aZ,l5 (f i),[0,0,0,0,0],U,U,(v i p hp).same b,kZ _,h _ _ d ⟨Et b hacc,Ao,bs++[decide (l5 (f i)=[0,0,0,0,0])],?_,c.snoc⟩⟩;rw[Dn];rfl
 ·rintro ys H2 j ⟨b,d,bs,rfl,c⟩;rw[BJ]at c;exact hd H2 bs b d c
theorem sV{K:U0}{l':Y0}{ps ps':U3}{f':Nat->A5}{c:Nat}{g:TG}{te:TE}{H1:Hp}{acc:Y0}{Q:VK}(R:Nat->A5->Prop)(n' m':Nat)(h1:H1 l=some (.lst (ps.map V.ref)))(h2:H1 l'=some (.lst (ps'.map V.ref)))(len1:ps.length=2^c)(len2:ps'.length=2^c)(v1:BR K H1 ps f)(v2:BR K H1 ps' f')(c6:c<=6)(hacc:H1 acc=none)
  (hg:∀{a:Y0}{x y:V}{w1 n:Option V}{H:Hp}{Q:L2.St->Hp->Prop},H a=some (.tup [x,y])->Q [some x,some y] H->g (.ref a) [w1,n] H Q)
  (hs:∀i p d H (N:V->Hp->Prop),Ce K H p (f i)->Ce K H d (f' i)->i<2^c->Same H1 H->(∀r o z,Same H o->Ce K o r z->Em n' m' z->R i z->N (.ref r) o)->te [some (.ref p),some (.ref d)] H N)
  (hd:∀H2 b g,Same H1 H2->Bx K H2 acc b g c n' m'->(∀i,i<2^c->R i (g i))->Q (.ref acc) H2):Hq (VR false false K l l') g te [none,none] H1 acc Q:=by
 have G:=HJ c6;refine wW (t1:=false) (t2:=false) (K:=K) (l1:=l) (l2:=l') (xs:=ps.map V.ref) (ys:=ps'.map V.ref) (fr:=[]) (λi ys H'=>∃(b:U3) (g:Nat->A5),Same H1 H'/\H' acc=some (.lst ys)/\ys=b.map V.ref/\b.length=i/\BR K H' b g/\∀j,j<i->Em n' m' (g j)/\R j (g j)) (by rw[BJ,BJ,len1,len2]) (by rw[BJ,len1];exact Jy G)
  ⟨[],λ_=>((0,0,0,0),0),Ax hacc _,Ao,U,U,(λ_ _ z=>by cases z),λj C=>absurd C (Oc _)⟩ (λh q=>hg h q) (λi zs H h=>by obtain⟨_,_,s,_⟩:=h;exact⟨Af.of (s _ _ h1),Af.of (s _ _ h2)⟩) ?_ ?_
 ·rintro i x y zs H T N D E P ⟨b,g',A,u,rfl,k,n,m⟩ L M;rw[Dw]at D E;obtain⟨p,hp,rfl⟩:=GZ.mp D;obtain⟨d,B,rfl⟩:=GZ.mp E;have hi:i<2^c:=by
   have:=(Fb.mp hp).1;rw[len1]at this;exact this
  have w:=Ax L (.tup [.ref p,.ref d]);have v:=A.trans w;refine hs i p d _ N ((v1 i p hp).same v) ((v2 i d B).same v) hi v λr o z t J O F=>M (.ref r) o (t _ _ (w _ _ u)) ⟨b++[r],λj=>if j=b.length then z else g' j,Et (v.trans t) hacc,Ao,by rw[Dn];rfl,by simp[k],Ml (Mr n (w.trans t) J) (t _ _ (w _ _ u)),λj C=>?_⟩;show Em n' m' (if j=b.length then z else g' j)/\R j (if j=b.length then z else g' j);split
  ·rename_i e;rw[e,k];exact⟨O,F⟩
  ·rename_i e;exact m j (by omega)
 ·rintro zs H2 I ⟨b,g',A,u,rfl,k,n,m⟩;rw[BJ,len1]at k m;exact hd H2 b g' A ⟨u,k,n,λi hi=>(m i hi).1⟩ λi hi=>(m i hi).2
section
variable {P:U8}{w:W1}{K:U0}{mg:U4}{base:Heap}{k:Nat}{h:Heap}
theorem X6k(F:Aa K "check_look" (top 53) .none)(X:K.In h)(G:Ng h mg)(d7:Ag P w K mg base k "is_even_mark" ["thing","cells"] Kc):Ag P w K mg base (k+1) "check_look" ["mark","cells"] Kd:=by
 refine F.cal X G ["mark","cells"] λd H vs Q c b h=>?_;obtain⟨p,m,n,rfl,e,ok,a,q⟩:=h
 refine⟨_,(@Aj _ _ _ (CQ (E_ (Dv (Av d7 b rfl (Ab (pv 0) (Ab (pv 1) Ae)))))
   (@Aj _ _ _ Gh)
   CT)),?_⟩
 try dsimp only[Bg]
 exact⟨_,U,_,U,p,m,n,U,e,ok,a,_,U,Bc q⟩
theorem _6(F:Aa K "half_left" (top 54) .none)(X:K.In h)(G:Ng h mg)(B:Bs mg)(eF:Ag P w K mg base k "laid_on" ["board","mark"] (Ie K))(cK:Ag P w K mg base k "plus" ["one","other"] (PJ K))(d8:Ag P w K mg base k "minus" ["one","other"] (Wj K))(dF:Ag P w K mg base k "halved" ["one"] lW):Ag P w K mg base (k+1) "half_left" ["board","mark","outcome"] (kJ K):=by
 refine F.cal X G ["board","mark","outcome","laid"] λnd H vs Q E' J h=>?_;obtain⟨l,p,ps,f,c,n,m,a,o,rfl,R,c6,n1,m1,hp,j,o2,kq⟩:=h;have hf:=j.f
 refine⟨_,(@Ak _ _ _ _ _ (@Bd _ _ 3 _ _ _ _ nd rfl (Or.inl rfl) (Av eF J rfl (Ab (pv 0) (Ab (pv 1) Ae))) rfl (.inl rfl))
  (@Ak _ _ _ _ _ (CQ (Bq Di (pv 2) Ad (Ac _))
   (@Aj _ _ _ (Ay (GD rfl (BZ.of (Nc:=["one","other"]) (mp:=[none,none]) (by kernel_rfl)) (XQ false false rfl B.zip (Ab (pv 0) (Ab (pv 3) Ae))) (λ_ _ _ _=>(Qd rfl (show (["one","other"]:W0).Nodup by decide +kernel) rfl rfl rfl rfl)) (λ_ _ _ _=>(Av dF J rfl (Ab (Av cK J rfl (Ab (pv 0) (Ab (pv 1) Ae))) Ae))))))
   CT)
  (@Aj _ _ _ (Ay (GD rfl (BZ.of (Nc:=["one","other"]) (mp:=[none,none]) (by kernel_rfl)) (XQ false false rfl B.zip (Ab (pv 0) (Ab (pv 3) Ae))) (λ_ _ _ _=>(Qd rfl (show (["one","other"]:W0).Nodup by decide +kernel) rfl rfl rfl rfl)) (λ_ _ _ _=>(Av dF J rfl (Ab (Av d8 J rfl (Ab (pv 0) (Ab (pv 1) Ae))) Ae)))))))),?_⟩
 try dsimp only[Bg]
 refine⟨_,U,_,U,l,p,ps,f,c,n,m,a,U,R,c6,Ah.of hp,⟨j.q,j.f,j.s⟩,λr H1 qs a0 L BL=>?_⟩;have T:=BL.lst;have ql:=BL.len;have d:=R.same L;have I:BR K H1 qs (CV a.1 a.2.1 a.2.2 f):=BL.vals;have S:∀i,i<2^c->Em n m (CV a.1 a.2.1 a.2.2 f i):=λi hi=>mO (v:=(f (i^^^a.2.1)).1) (h:=(f (i^^^a.2.1)).2) (R.ok _ (xP hi hf)) _;refine⟨_,U,U,_,U,G4 (λo0=>?_) (λo0=>?_)⟩
 ·have W:o=0:=by omega
  subst W;refine⟨_,U,_,U,l,r,_,_,U,Af.of d.lst,Af.of T,λacc b=>?_⟩;refine sV (K:=K) (λi z=>Bu 1 (f i) (CV a.1 a.2.1 a.2.2 f i) z) (n+2*m+2) (m+1) d.lst T d.len ql d.vals I c6 b (λha hQ=>⟨_,_,U,Ah.of ha,U,_,_,U,_,_,U,U,hQ⟩) (λi p1 C H2 N e2 e hi M Z=>?_) (λH2 D g M B2 r2=>kq acc H2 D g (Wf L b) (L.trans M) B2 r2);have oi:=R.ok i hi;have ol:=S i hi;have E:0<=(f i).2:=oi.amt.nn;have l0:0<=(CV a.1 a.2.1 a.2.2 f i).2:=ol.amt.nn;have im:=oi.le;have lm:=ol.le;obtain⟨yy,O⟩:∃yy,CV a.1 a.2.1 a.2.2 f i=yy:=⟨_,U⟩;rw[O]at e ol l0 lm;refine⟨_,U,_,U,n,p1,C,_,_,_,_,_,_,_,_,_,_,⟨U,e2,e,E,l0,by omega,by omega,oi.sz,ol.sz⟩,λr3 H3 x y z u g s3 e3 sm sz=>?_⟩;refine⟨r3,x,y,z,u,g,U,e3,sm.amt.nn,λr4 H4 Y y' z' u' g' s4 V A=>Z r4 H4 ((Y,y',z',u'),g') (s3.trans s4) (Ce.of V) ⟨(A.sz sz).mono (by omega),A.amt,?_⟩ ?_⟩
  ·have:=A.le;have:=sm.le;show g'<=((m+1:Nat):Int);omega
  ·show Bu _ (f i) (CV a.1 a.2.1 a.2.2 f i) _;rw[O];refine sE (t:=((x,y,z,u),g)) E l0 ?_ A;simp only[Rb];exact sm
 ·have W:o=1:=by omega
  subst W;refine⟨_,U,_,U,l,r,_,_,U,Af.of d.lst,Af.of T,λacc b=>?_⟩;refine sV (K:=K) (λi z=>Bu (-1) (f i) (CV a.1 a.2.1 a.2.2 f i) z) (n+2*m+2) (m+1) d.lst T d.len ql d.vals I c6 b (λha hQ=>⟨_,_,U,Ah.of ha,U,_,_,U,_,_,U,U,hQ⟩) (λi p1 C H2 N e2 e hi M Z=>?_) (λH2 D g M B2 r2=>kq acc H2 D g (Wf L b) (L.trans M) B2 r2);have oi:=R.ok i hi;have ol:=S i hi;have E:0<=(f i).2:=oi.amt.nn;have l0:0<=(CV a.1 a.2.1 a.2.2 f i).2:=ol.amt.nn;have im:=oi.le;have lm:=ol.le;obtain⟨yy,O⟩:∃yy,CV a.1 a.2.1 a.2.2 f i=yy:=⟨_,U⟩;rw[O]at e ol l0 lm;refine⟨_,U,_,U,n,p1,C,_,_,_,_,_,_,_,_,_,_,⟨U,e2,e,E,l0,by omega,by omega,oi.sz,ol.sz⟩,λr3 H3 x y z u g s3 e3 sm sz=>?_⟩;refine⟨r3,x,y,z,u,g,U,e3,sm.amt.nn,λr4 H4 Y y' z' u' g' s4 V A=>Z r4 H4 ((Y,y',z',u'),g') (s3.trans s4) (Ce.of V) ⟨(A.sz sz).mono (by omega),A.amt,?_⟩ ?_⟩
  ·have:=A.le;have:=sm.le;show g'<=((m+1:Nat):Int);omega
  ·show Bu _ (f i) (CV a.1 a.2.1 a.2.2 f i) _;rw[O];refine sE (t:=((x,y,z,u),g)) E l0 ?_ A;simp only[Vf,Rb];exact sm
theorem X2z{aZ:Y0}(gZ:mg "NOUGHT"=some (.ref aZ))(kZ:∀H,Ah K H aZ ([0,0,0,0,0].map V.int))(F:Aa K "is_nothing" (top 56) .none)(X:K.In h)(G:Ng h mg)(B:Bs mg):Ag P w K mg base (k+1) "is_nothing" ["amounts"] (qJ K):=by
 refine F.cal X G ["amounts"] λq H vs Q p o h=>?_;obtain⟨l,ps,f,c,n,m,rfl,a,c6,e⟩:=h;refine⟨_,(@Aj _ _ _ (Ay (Cm (lO rfl) rfl B.all boot_all (Ab (GD rfl (BZ.of (Nc:=["one"]) (mp:=[none]) (by kernel_rfl)) (JC (pv 0)) (λ_ _ _ _=>(Ck (i:=0) (show (["one"]:W0).Nodup by decide +kernel) rfl (Or.inl rfl))) (λ_ _ _ _=>(JB (Y7o o.units) (pv 0) (Jw (v:=.ref aZ) rfl gZ rfl) (Ac _)))) Ae)))),?_⟩;try dsimp only[Bg]
 refine⟨_,U,l,U,⟨_,Af.of a.lst⟩,λacc b=>X3t (fr:=[]) kZ a.lst (by rw[a.len];exact HJ c6) a.vals b λH2 bs g j d=>?_⟩;rw[a.len]at d;exact⟨acc,bs,U,Af.of j,e _ H2 g d.iff⟩
theorem Y2c(F:Aa K "settled" (top 52) .none)(X:K.In h)(G:Ng h mg)(cH:Ag P w K mg base k "check_look" ["mark","cells"] Kd)(cD:Ag P w K mg base k "cells_of" ["board"] (Qf K))(cN:Ag P w K mg base k "half_left" ["board","mark","outcome"] (kJ K))(dG:Ag P w K mg base k "is_nothing" ["amounts"] (qJ K)):Ag P w K mg base (k+1) "settled" ["board","mark","outcome"] (lX K):=by
 refine F.cal X G ["board","mark","outcome","behind"] λA H vs Q M i h=>?_;obtain⟨l,p,ps,f,c,n,m,t,o,rfl,e,c6,C,L,hp,a,B,o2,⟨j,d,J⟩,y⟩:=h
 refine⟨_,(@Ak _ _ _ _ _ (Hg (Av cH i rfl (Ab (pv 1) (Ab (Av cD i rfl (Ab (pv 0) Ae)) Ae))))
  (@Ak _ _ _ _ _ (@Bd _ _ 3 _ _ _ _ A rfl (Or.inl rfl) (Av cN i rfl (Ab (pv 0) (Ab (pv 1) (Ab (pv 2) Ae)))) rfl (.inl rfl))
  (@Ak _ _ _ _ _ (CQ (Dv (Av dG i rfl (Ab (pv 3) Ae)))
   (@Aj _ _ _ Gh)
   CT)
  (@Aj _ _ _ (Ay (pv 3)))))),?_⟩
 try dsimp only[Bg]
 refine⟨_,U,_,U,l,_,c,U,Af.of e.lst,by rw[BJ,e.len],c6,p,t,c,U,hp,a,B,?_⟩;refine⟨_,U,_,U,_,U,l,p,ps,f,c,n,m,t,o,U,e,c6,C,L,hp,a,o2,λr H1 s g E I v hb=>?_⟩;have x:g j≠nought:=λz=>J ((qG o2 (e.ok j d).amt (WD (e.ok _ (xP d a.f)).amt) (hb j d)).mp z);refine⟨_,U,r,s,g,c,_,_,U,v,c6,λb H2 u q=>⟨_,U,?_⟩⟩;have D:b=false:=by
  cases b with
  | false=>rfl
  | true=>exact absurd (q.mp rfl j d) x
 subst D;exact Bc ⟨_,U,y r H2 s g E (I.trans u) (v.same u) hb ⟨j,d,x⟩⟩
end
end Ci
set_option maxHeartbeats 4000000
namespace Ai
open L2 Am Pc Ba
end Ai
namespace M82
open Pc J8 G8 N5 Ba
open Jo (ev)
variable {c:Nat}{f:Nat->A5}
end M82
namespace Xh
open En Mv Jm G7 Mu
end Xh
namespace Qm
open En Mv Jm G7 Mu Xh
end Qm
namespace xX
open En Mv Jm G7 Mu Xh Qm
end xX
set_option maxHeartbeats 1000000
namespace ni
open En Mv Jm G7 Mu Qm Pc
end ni
namespace xW
open En Mv Jm G7 Mu Qm ni Pc
end xW
namespace M87
open En Mv Jm G7 Mu Qm ni xW Pc
end M87
namespace M88
open En Mv Jm G7 Mu Xh Qm xX
end M88
namespace M97
open Ba Am Pc
open Jo (ev)
open G8 (Mk)
variable {c:Nat}{ms:List Mk}
variable {row:List Mv}
end M97
namespace nY
open Pc J8 G8 N5 Jo
variable {c i:Nat}{ms:List Mk}
end nY
namespace nY
open Pc J8 G8 N5 Jo
variable {c:Nat}{ms:List Mk}
end nY
namespace M98
open Ba Am Pc Hw
open Lk (CV Eo Bu sg vec WQ lN Fy nought k_ WD)
open G8 (Mk)
open Jo (ev)
variable {c:Nat}{f g:Nat->A5}{r m:Mk}
end M98
namespace Ci
open L2 Am Pc Ba Hw Mx Hr Lq
open Lk hiding Qa
open G8 (Mk)
open Jo (ev)
open Ai (top Bs Ce BR Bx Qf)
open Bw (L3 Jl)
def Qo (f:Nat->A5)(c:Nat):Prop:=∃i,i<2^c/\f i≠nought
theorem pW{t r b x y z:Int}(l:Low t r b x y z):x*b=t*z/\y*b=r*z:=by
 obtain⟨g,_,a,c,d⟩:=l.ex;subst a c d;constructor<;>grind
theorem X6c{p q n p' q' n' x y z a b c:Int}(hz:0<z)(e1:x*(p'*p'-2*q'*q')=n'*p'*z)(e2:y*(p'*p'-2*q'*q')=-n'*q'*z)(R:p'*p'-2*q'*q'≠0)
  (hc:0<c) (co:J_ a b c) (f1:a*(n*z)=(p*x+2*q*y)*c) (f2:b*(n*z)=(p*y+q*x)*c):nU p q n p' q' n' a b c:=by
 have g1:x*p'+2*y*q'=n'*z:=by
  apply Jd R;have:(x*p'+2*y*q')*(p'*p'-2*q'*q')=x*(p'*p'-2*q'*q')*p'+2*(y*(p'*p'-2*q'*q'))*q':=by grind
  rw[this,e1,e2];grind
 have g2:y*p'+x*q'=0:=by
  have:(y*p'+x*q')*(p'*p'-2*q'*q')=0:=by
   have:(y*p'+x*q')*(p'*p'-2*q'*q')=y*(p'*p'-2*q'*q')*p'+x*(p'*p'-2*q'*q')*q':=by grind
   rw[this,e1,e2];grind
  rcases NK.mp this with h | h
  ·exact h
  ·exact absurd h R
 have d:z≠0:=by omega
 refine⟨hc,co,?_,?_⟩
 ·apply Jd d;have:(a*p'+2*b*q')*n*z=a*(n*z)*p'+2*(b*(n*z))*q':=by grind
  rw[this,f1,f2];have:(p*x+2*q*y)*c*p'+2*((p*y+q*x)*c)*q'=c*(p*(x*p'+2*y*q')+2*q*(y*p'+x*q')):=by grind
  rw[this,g1,g2];grind
 ·apply Jd d;have:(a*q'+b*p')*n*z=a*(n*z)*q'+b*(n*z)*p':=by grind
  rw[this,f1,f2];have:(p*x+2*q*y)*c*q'+(p*y+q*x)*c*p'=c*(p*(y*p'+x*q')+q*(x*p'+2*y*q')):=by grind
  rw[this,g1,g2];grind
structure S3 (B D:Nat) (x y z:Int):Prop where
 x:Sz B x
 y:Sz B y
 z:Sz D z
def ur:Sp:=λvs H Q _=>∃(a b:Y0) (p q n p' q' n':Int),vs=[.ref a,.ref b]/\H a=some (T3 p q n)/\H b=some (T3 p' q' n')/\0<n/\0<n'/\S3 3000 500 p q n/\S3 2700 5000 p' q' n'/\∀(r:Y0) (H':Hp) (x y z:Int),Same H H'->H' r=some (T3 x y z)->Low (p*p'+2*q*q') (p*q'+q*p') (n*n') x y z->Q (.ref r) H'
def uG:Sp:=λvs H Q _=>∃(a b:Y0) (p q n p' q' n':Int),vs=[.ref a,.ref b]/\H a=some (T3 p q n)/\H b=some (T3 p' q' n')/\0<n/\0<n'/\S3 3000 500 p q n/\S3 2400 200 p' q' n'/\¬ (p'=0/\q'=0)/\∀(r:Y0) (H':Hp) (x y z:Int),Same H H'->H' r=some (T3 x y z)->nU p q n p' q' n' x y z->S3 5800 5800 x y z->Q (.ref r) H'
def qg (K:U0):Sp:=λvs H Q _=>∃(l p ah:Y0) (ps:U3) (f:Nat->A5) (c n m:Nat) (mk:Mk) (o:Nat) (hx hy hz:Int),vs=[.ref l,.ref p,.int o,.ref ah]/\Bx K H l ps f c n m/\c<=6/\n<=800/\m<=90/\H p=some (Bw.T3 mk)/\Jl c mk/\o<2/\H ah=some (T3 hx hy hz)/\He f (2^c) hx hy hz/\S3 2400 200 hx hy hz/\Qo f c /\
 ∀(r:Y0) (H':Hp) (g:Nat->A5) (x y z:Int),Same H H'->H' r=some (T3 x y z)->Eo mk.1 mk.2.1 mk.2.2 (sg o) (2^c) f g->(∀i,i<2^c->Fy (g i))->Sh f g (2^c) x y z->S3 5800 5800 x y z->Q (.ref r) H'
def Wi (K:U0):Sp:=λvs H Q _=>∃(l p:Y0) (ps:U3) (f:Nat->A5) (c n m:Nat) (mk:Mk),vs=[.ref l,.ref p]/\Bx K H l ps f c n m/\c<=6/\n<=800/\m<=90/\H p=some (Bw.T3 mk)/\Jl c mk/\ev mk/\Qo f c /\
 ∀(r t0 t1:Y0) (H':Hp) (g:Nat->Nat->A5) (x y z:Nat->Int),Same H H'->H' r=some (.tup [.ref t0,.ref t1])->H' t0=some (T3 (x 0) (y 0) (z 0))->H' t1=some (T3 (x 1) (y 1) (z 1))->(∀o,o<2->Eo mk.1 mk.2.1 mk.2.2 (sg o) (2^c) f (g o)/\(∀i,i<2^c->Fy (g o i))/\Sh f (g o) (2^c) (x o) (y o) (z o)/\S3 5800 5800 (x o) (y o) (z o))->Q (.ref r) H'
section
variable {P:U8}{w:W1}{K:U0}{mg:U4}{base:Heap}{k:Nat}{h:Heap}
theorem Y4m(F:Aa K "share_times" (top 16) .none)(X:K.In h)(G:Ng h mg)(cQ:Ag P w K mg base k "share" ["top","root","bottom"] WX):Ag P w K mg base (k+1) "share_times" ["one","other"] ur:=by
 refine F.cal X G ["one","other","top","root"] λl H vs Q E B h=>?_;obtain⟨a,b,p,q,n,I,u,t,rfl,v,hb,J,D,⟨g,m,o⟩,⟨f,e,s⟩,kk⟩:=h;have d:Ah K H a [.int p,.int q,.int n]:=Ah.of v;have c:Ah K H b [.int I,.int u,.int t]:=Ah.of hb;have two:Sz 3002 (2*q):=((show Sz 2 2 by decide).mul m).mono (by decide);have mm:∀{x y:Int}{i j:Nat},Sz i x->Sz j y->i<=10000->j<=10000->Hs x y:=λh h' a b=>⟨_,_,h,h',by omega⟩
 refine⟨_,(@Ak _ _ _ _ _ (@Bd _ _ 2 _ _ _ _ l rfl (Or.inl rfl) (Aq Gu (Aq Ld (Al Az (pv 0) Ad (λ_ _=>rfl)) (Al Az (pv 1) Ad (λ_ _=>rfl))) (Aq Ld (Aq XJ Ad (Al Az (pv 0) Ad (λ_ _=>rfl))) (Al Az (pv 1) Ad (λ_ _=>rfl)))) rfl (.inl rfl))
  (@Ak _ _ _ _ _ (@Bd _ _ 3 _ _ _ _ l rfl (Or.inl rfl) (Aq Gu (Aq Ld (Al Az (pv 0) Ad (λ_ _=>rfl)) (Al Az (pv 1) Ad (λ_ _=>rfl))) (Aq Ld (Al Az (pv 0) Ad (λ_ _=>rfl)) (Al Az (pv 1) Ad (λ_ _=>rfl)))) rfl (.inl rfl))
  (@Aj _ _ _ (Ay (Av cQ B rfl (Ab (pv 2) (Ab (pv 3) (Ab (Aq Ld (Al Az (pv 0) Ad (λ_ _=>rfl)) (Al Az (pv 1) Ad (λ_ _=>rfl))) Ae)))))))),?_⟩
 try dsimp only[Bg]
 refine⟨_,U,a,_,_,_,U,U,d,U,_,U,b,_,_,_,U,U,c,U,_,_,U,U,mm g f (by decide) (by decide),_,U,a,_,_,_,U,U,d,U,_,_,U,U,.inl ⟨by decide,by decide⟩,_,U,b,_,_,_,U,U,c,U,_,_,U,U,mm two e (by decide) (by decide),_,_,U,U,?_⟩;refine⟨_,U,a,_,_,_,U,U,d,U,_,U,b,_,_,_,U,U,c,U,_,_,U,U,mm g e (by decide) (by decide),_,U,a,_,_,_,U,U,d,U,_,U,b,_,_,_,U,U,c,U,_,_,U,U,mm m f (by decide) (by decide),_,_,U,U,?_⟩;exact⟨_,U,_,U,_,U,a,_,_,_,U,U,d,U,_,U,b,_,_,_,U,U,c,U,_,_,U,U,mm o s (by decide) (by decide),_,_,_,U,NP (by omega) (by omega),(o.mul s).mono (by decide),λr H' x y z A C l1=>kk r H' x y z A C l1⟩
theorem Y7w(F:Aa K "share_over" (top 17) .none)(X:K.In h)(G:Ng h mg)(cQ:Ag P w K mg base k "share" ["top","root","bottom"] WX)(dB:Ag P w K mg base k "share_times" ["one","other"] ur):Ag P w K mg base (k+1) "share_over" ["one","other"] uG:=by
 refine F.cal X G ["one","other","rootless"] λN H vs Q E D h=>?_;obtain⟨a,b,p,q,n,m,g,L,rfl,S,hb,hn,a0,⟨s,u,I⟩,⟨f,l,o⟩,M,kk⟩:=h;have d:Ah K H b [.int m,.int g,.int L]:=Ah.of hb;have mm:∀{x y:Int}{i j:Nat},Sz i x->Sz j y->i<=10000->j<=10000->Hs x y:=λh h' a b=>⟨_,_,h,h',by omega⟩;have two:Sz 2402 (2*g):=((show Sz 2 2 by decide).mul l).mono (by decide);have R:m*m-2*g*g≠0:=λe=>M (JZ (by omega));have A:Sz 4804 (m*m-2*g*g):=((f.mul f).sub (two.mul l)).mono (by decide)
 refine⟨_,(@Ak _ _ _ _ _ (@Bd _ _ 2 _ _ _ _ N rfl (Or.inl rfl) (Aq G5 (Aq Ld (Al Az (pv 1) Ad (λ_ _=>rfl)) (Al Az (pv 1) Ad (λ_ _=>rfl))) (Aq Ld (Aq XJ Ad (Al Az (pv 1) Ad (λ_ _=>rfl))) (Al Az (pv 1) Ad (λ_ _=>rfl)))) rfl (.inl rfl))
  (@Ak _ _ _ _ _ (CQ (Bq Di (pv 2) Ad (Ac _))
   (@Aj _ _ _ Gh)
   CT)
  (@Aj _ _ _ (Ay (Av dB D rfl (Ab (pv 0) (Ab (Av cQ D rfl (Ab (Aq Ld (Al Az (pv 1) Ad (λ_ _=>rfl)) (Al Az (pv 1) Ad (λ_ _=>rfl))) (Ab (Aq Ld (Np Nu (Al Az (pv 1) Ad (λ_ _=>rfl))) (Al Az (pv 1) Ad (λ_ _=>rfl))) (Ab (pv 2) Ae)))) Ae))))))),?_⟩
 try dsimp only[Bg]
 refine⟨_,U,b,_,_,_,U,U,d,U,_,U,b,_,_,_,U,U,d,U,_,_,U,U,mm f f (by decide) (by decide),_,U,b,_,_,_,U,U,d,U,_,_,U,U,.inl ⟨by decide,by decide⟩,_,U,b,_,_,_,U,U,d,U,_,_,U,U,mm two l (by decide) (by decide),_,_,U,U,?_⟩;refine⟨_,U,U,_,U,G4 (λc=>absurd c R) (λ_=>?_)⟩;refine⟨_,U,_,U,b,_,_,_,U,U,d,U,_,U,b,_,_,_,U,U,d,U,_,_,U,U,mm o f (by decide) (by decide),_,U,b,_,_,_,U,U,d,U,_,U,_,U,b,_,_,_,U,U,d,U,_,_,U,U,mm o.neg l (by decide) (by decide),_,U,_,_,_,U,R,A.mono (by decide),λV H1 x y z C e1 l1=>?_⟩;obtain⟨m1,Y,J⟩:=l1.sizes;have v:Sz 2700 x:=((o.mul f).mono (by decide)).le m1;have t:Sz 2700 y:=((o.neg.mul l).mono (by decide)).le Y;have B:Sz 4804 z:=A.le J;refine⟨a,V,p,q,n,x,y,z,U,C _ _ S,e1,hn,l1.pos,⟨s,u,I⟩,⟨v,t,B.mono (by decide)⟩,λr H' a' b' c' s2 W l2=>?_⟩;obtain⟨T,O⟩:=pW l1;obtain⟨Z,f2⟩:=pW l2;obtain⟨o1,o2,o3⟩:=l2.sizes;refine kk r H' a' b' c' (C.trans s2) W (X6c l1.pos T O R l2.pos l2.cop Z f2) ⟨?_,?_,?_⟩
 ·exact(((s.mul v).add (((show Sz 2 2 by decide).mul u).mul t)).mono (by decide)).le o1
 ·exact(((s.mul t).add (u.mul v)).mono (by decide)).le o2
 ·exact((I.mul B).mono (by decide)).le o3
theorem Y4t(F:Aa K "left_share" (top 58) .none)(X:K.In h)(G:Ng h mg)(dL:Ag P w K mg base k "share_over" ["one","other"] uG)(cU:Ag P w K mg base k "heft" ["board"] (FT K))(cN:Ag P w K mg base k "half_left" ["board","mark","outcome"] (kJ K)):Ag P w K mg base (k+1) "left_share" ["board","mark","outcome","ahead"] (qg K):=by
 refine F.cal X G ["board","mark","outcome","ahead"] λnd H vs Q E a h=>?_;obtain⟨l,p,ah,ps,f,c,n,m,I,o,t,v,hz,rfl,A,c6,n1,m1,hp,B,o2,M,b,sh,e,kk⟩:=h;have T:∀w,w<2^c->Fy (f w):=λw N=>(A.ok w N).amt;have d:¬ (t=0/\v=0):=λz=>Pos.zero (by have:=X7o b T e;rw[z.1,z.2]at this;exact this);refine⟨_,(@Aj _ _ _ (Ay (Av dL a rfl (Ab (Av cU a rfl (Ab (Av cN a rfl (Ab (pv 0) (Ab (pv 1) (Ab (pv 2) Ae)))) Ae)) (Ab (pv 3) Ae))))),?_⟩;try dsimp only[Bg]
 refine⟨_,U,_,U,_,U,l,p,ps,f,c,n,m,I,o,U,A,c6,by omega,by omega,hp,B,o2,λO H1 C g nr s u hb=>?_⟩;refine⟨O,C,g,c,_,_,U,u,c6,by omega,by omega,λD H2 V R Z q S r sx sy sz=>?_⟩;refine⟨_,U,D,ah,V,R,Z,t,v,hz,U,S,(s.trans q) _ _ M,r.pos,b.pos,⟨sx.mono (by omega),sy.mono (by omega),sz.mono (by omega)⟩,sh,d,λW J x y z j e3 L Y=>?_⟩;exact kk W J g x y z ((s.trans q).trans j) e3 hb (λi hi=>(u.ok i hi).amt) (Sh.of r b L) Y
theorem Y4u(F:Aa K "looked" (top 57) .none)(X:K.In h)(G:Ng h mg)(cH:Ag P w K mg base k "check_look" ["mark","cells"] Kd)(cD:Ag P w K mg base k "cells_of" ["board"] (Qf K))(cU:Ag P w K mg base k "heft" ["board"] (FT K))(cV:Ag P w K mg base k "left_share" ["board","mark","outcome","ahead"] (qg K)):Ag P w K mg base (k+1) "looked" ["board","mark"] (Wi K):=by
 refine F.cal X G ["board","mark","ahead"] λM H vs Q E b h=>?_;obtain⟨l,p,ps,f,c,n,m,q,rfl,j,c6,y,D,hp,a,O,d,kk⟩:=h
 refine⟨_,(@Ak _ _ _ _ _ (Hg (Av cH b rfl (Ab (pv 1) (Ab (Av cD b rfl (Ab (pv 0) Ae)) Ae))))
  (@Ak _ _ _ _ _ (@Bd _ _ 2 _ _ _ _ M rfl (Or.inl rfl) (Av cU b rfl (Ab (pv 0) Ae)) rfl (.inl rfl))
  (@Aj _ _ _ (Ay (@Fw _ _ _ _ _ (Ab (Av cV b rfl (Ab (pv 0) (Ab (pv 1) (Ab Ad (Ab (pv 2) Ae))))) (Ab (Av cV b rfl (Ab (pv 0) (Ab (pv 1) (Ab Ad (Ab (pv 2) Ae))))) Ae))))))),?_⟩
 try dsimp only[Bg]
 refine⟨_,U,_,U,l,_,c,U,Af.of j.lst,by rw[BJ,j.len],c6,p,q,c,U,hp,a,O,?_⟩;refine⟨_,U,l,ps,f,c,n,m,U,j,c6,by omega,by omega,λx H1 t u hz i A z sx sy sz=>?_⟩;have C:S3 2400 200 t u hz:=⟨sx.mono (by omega),sy.mono (by omega),sz.mono (by omega)⟩;have B:=j.same i;refine⟨_,U,_,U,_,U,l,p,x,ps,f,c,n,m,q,0,t,u,hz,U,B,c6,y,D,i _ _ hp,a,by decide,A,z,C,d,λv H2 g0 x0 J z0 g T Y a0 s0 W=>?_⟩;refine⟨_,U,_,U,_,U,l,p,x,ps,f,c,n,m,q,1,t,u,hz,U,B.same g,c6,y,D,(i.trans g) _ _ hp,a,by decide,g _ _ A,z,C,d,λt1 H3 g1 x1 I L e Z h1 R S N=>?_⟩;refine⟨t2,λr b=>?_⟩;have s:=Ax b (.tup [V.ref v,V.ref t1]);refine kk r v t1 _ (λo=>if o=0 then g0 else g1) (λo=>if o=0 then x0 else x1) (λo=>if o=0 then J else I) (λo=>if o=0 then z0 else L) ((i.trans g).trans (e.trans s)) Ao (s _ _ (e _ _ T)) (s _ _ Z) λo ho=>?_;rcases (show o=0\/o=1 by omega) with rfl | rfl
 ·exact⟨Y,a0,s0,W⟩
 ·exact⟨h1,R,S,N⟩
end
end Ci
namespace L2
structure Cu (P:U8) (w:W1) (K:U0) (mg:U4) (base:Heap) (k:Nat) (C:Y0) (m:Str) (ps:W0) (sp:Sp):Prop where
 ex:∃f fd,Cd P w K mg base GP k f fd ps sp/\Binds K fd ps []/\Meth K C m f/\Cls K C
structure JH (P:U8) (w:W1) (K:U0) (mg:U4) (base:Heap) (k:Nat) (x:Str) (C:Y0) (ps:W0) (sp:Sp) (dvs:List V):Prop where
 ex:∃f fd ds,Cd P w K mg base GP k f fd ps sp/\Binds K fd ps ds/\Vals dvs ds/\Mk K C f/\mg x=some (.ref C)
structure Pb (P:U8) (w:W1) (K:U0) (mg:U4) (base:Heap) (k:Nat) (x:Str) (m:Str) (ps:W0) (sp:Sp):Prop where
 ex:∃C f fd,Cd P w K mg base GP k f fd ps sp/\Binds K fd ps []/\PySem.W.keepIn K (.ref f)=true/\mg x=some (.ref C)/\PySem.W.specialIn K (.ref C) "__getattribute__"=some (some (.builtin "type.__getattribute__")) /\
  PySem.W.readsIn K C (.type "type")=true/\PySem.W.findCls K (.ref C) (.type "type") m=some (.val (.ref f))
section
variable {P:U8}{w:W1}{K:U0}{mg:U4}{base:Heap}{j k:Nat}{x m:Str}{C:Y0}{ps:W0}{sp:Sp}{dvs:List V}
theorem Cu.mono(c:Cu P w K mg base j C m ps sp)(h:j<=k):Cu P w K mg base k C m ps sp:=let ⟨f,fd,F,r⟩:=c.ex;⟨f,fd,F.mono h,r⟩
theorem JH.mono(c:JH P w K mg base j x C ps sp dvs)(h:j<=k):JH P w K mg base k x C ps sp dvs:=let ⟨f,fd,ds,F,r⟩:=c.ex;⟨f,fd,ds,F.mono h,r⟩
end
section
variable {X:Cx}{k:Nat}{C:Y0}{x m:Str}{ps:W0}{sp:Sp}{dvs:List V}{p pos apos:Pos}{e o:Expr}{es:List Expr}{ta:TE}{t:TA}
variable{pl:Sem Bool}
theorem QS(c:Cu X.prog X.w X.K X.mg X.base k C m ps sp)(hr:Bl k X.A)(he:PE X o ta)(ha:PA X (e::es) t)
  (hst:starEach (e::es) X.env=(false,eval e X.env)::starEach es X.env:=by rfl) (hpl:(backTo pos (starEach es X.env)).any (·.1)=false:=by rfl)
  (ht:eval (.Call (.Attribute o m apos) (e::es) [] pos) X.env=(do
   let ov ← eval o X.env
   standAt apos.atName
   let (f,first) ← holding [ov] (getMethod ov m pl)
   callWith pos f first (backTo pos (starEach (e::es) X.env)) (backToKw pos (keywordEach [] X.env))):=by rfl):PE X (.Call (.Attribute o m apos) (e::es) [] pos) (JM C m sp [] E0 ta t):=by
 obtain⟨f,fd,F,b,M,cl⟩:=c.ex;exact X2b (pl:=pl) he cl M F hr b .nil Ga ha hst hpl ht
theorem tK(c:Cu X.prog X.w X.K X.mg X.base k C m ps sp)(hr:Bl k X.A)(he:PE X o ta)
  (ht:eval (.Call (.Attribute o m apos) [] [] pos) X.env=(do
   let ov ← eval o X.env
   standAt apos.atName
   let (f,first) ← holding [ov] (getMethod ov m pl)
   callWith pos f first (backTo pos (starEach [] X.env)) (backToKw pos (keywordEach [] X.env))):=by rfl):PE X (.Call (.Attribute o m apos) [] [] pos) (JM C m sp [] E0 ta KD):=by
 obtain⟨f,fd,F,b,M,cl⟩:=c.ex;exact Y7m (pl:=pl) he cl M F hr b .nil Ga ht
theorem vI(c:JH X.prog X.w X.K X.mg X.base k x C ps sp dvs)(hr:Bl (k+1) X.A)(hg:Gl X x)(ha:PA X (e::es) t)(hdb:(x == ("__debug__":Str))=false:=by decide)
  (he:starEach (e::es) X.env=(false,eval e X.env)::starEach es X.env:=by rfl) (hpl:(backTo pos (starEach es X.env)).any (·.1)=false:=by rfl):PE X (.Call (.Name x p) (e::es) [] pos) (M6 C sp dvs E0 t):=by
 obtain⟨f,fd,ds,F,b,v,M,m⟩:=c.ex;exact X2c M F hr hg m b v Ga ha hdb he hpl
theorem X5z(c:Pb X.prog X.w X.K X.mg X.base k x m ps sp)(hr:Bl k X.A)(hg:Gl X x)(ha:PA X (e::es) t)(hdb:(x == ("__debug__":Str))=false:=by decide)
  (hst:starEach (e::es) X.env=(false,eval e X.env)::starEach es X.env:=by rfl) (hpl:(backTo pos (starEach es X.env)).any (·.1)=false:=by rfl)
  (ht:eval (.Call (.Attribute (.Name x p) m apos) (e::es) [] pos) X.env=(do
   let ov ← eval (.Name x p) X.env
   standAt apos.atName
   let (f,first) ← holding [ov] (getMethod ov m pl)
   callWith pos f first (backTo pos (starEach (e::es) X.env)) (backToKw pos (keywordEach [] X.env))):=by rfl):PE X (.Call (.Attribute (.Name x p) m apos) (e::es) [] pos) (JN sp [] E0 t):=by
 obtain⟨C,f,fd,F,b,d,i,g1,g2,g3⟩:=c.ex;intro pins s σ H Q I h;refine Yw (pl:=pl) (WM I hg i ?_ hdb) ht;refine PySem.W.method_cls I.kIn g1 (PySem.W.cls_value I.kIn g2 g3 rfl ?_);have I:=I.tok (s.toks+1);refine Vw (h₀:=X.base) I.ok.mod.kin d (BW (ha pos pins _ σ H _ I h) λus j ⟨vs,H2,a,r,g⟩=>⟨a.kIn,?_⟩) hst hpl;exact XR F hr b .nil Ga a r g
theorem tR{body:W9}{h₀:ExceptHandler}{hs:List ExceptHandler}{t:TS}(hx:∀e s,¬ X.xe e s)(hb:GF X body t):PS X (.Try body (h₀::hs) [] [] pos) t:=by
 intro pins s σ H D I h;refine wpAny_Try_except (Ep (hb pins s σ H D I h) (λf a q=>?_) (λe a q=>(hx e a q).elim));cases f with
 | next=>exact Rn q
 | brk=>exact q
 | cont=>exact q
 | ret u=>exact q
end
structure MethAt (K:U0) (C:Y0) (m q:Str) (st:Stmt) (dV:W2):Prop where
 ex:∃(f:Y0) (oc:W2) (od:W5) (kV doc pm:W2) (an:W5) (cdv ct:W2) (osl:W4),
  K.lookup f=some ⟨oc,od,.func (PySem.W.fnOf m q (Cr st) (Cj st) (Bh st) dV kV doc pm an cdv ct),osl⟩/\PySem.W.codeIn K cdv q=true/\Meth K C m f
def Gz (K:U0)(m q:Str)(st:Stmt)(dV:W2)(ps:W0)(ds:U5):Prop:=∀(kV doc pm:W2) (an:W5) (cdv ct:W2),Binds K (PySem.W.fnOf m q (Cr st) (Cj st) (Bh st) dV kV doc pm an cdv ct) ps ds
variable{m q:Str}{ps:W0}
theorem HW{K:U0}{st:Stmt}(h:∀(kV a c:W2) (d:W5) (b ct:W2) (us:U5),us.length=ps.length->bindArgs (PySem.W.fnOf m q (Cr st) (Cj st) (Bh st) .none kV a c d b ct) ⟨us,[]⟩=pure (ps.zip us)):Gz K m q st .none ps [] :=
 λkV a c d b ct=>.all (h kV a c d b ct)
section
variable {P:U8}{w:W1}{K:U0}{mg:U4}{base:Heap}
theorem MethAt.run{C:Y0}{st:Stmt}{dV:W2}{N:W0}{k:Nat}{sp:Sp}(F:MethAt K C m q st dV)(S:Ar N ps (Bh st))(len:∀vs H Q E,sp vs H Q E->vs.length=ps.length)
  (hbody:∀(f:Y0) (a:W2) (A:W7) (outer:List Env) (s:U7) (H:Hp) (vs:List V) (Q:VK) (E:XK),Bl k (A.deeper (envOfC q (Bh st) s.heap.objs.size f a))->sp vs H Q E ->
   ∃t,GF (Fi GP P w K mg base N q (Bh st) f a A outer s H E).nox (Cj st) t/\t { nx:=λ_ H'=>Q .non H',rt:=Q} (start N vs) H):
  ∃f kV b c d a ct,Meth K C m f/\Cd P w K mg base GP (k+1) f (PySem.W.fnOf m q (Cr st) (Cj st) (Bh st) dV kV b c d a ct) ps sp:=by
 obtain⟨f,o,n,kV,b,c,d,a,ct,i,l,e,M⟩:=F.ex;refine⟨f,kV,b,c,d,a,ct,M,Wu l e S len λA outer s H vs Q E j g=>?_⟩;obtain⟨t,h,q⟩:=hbody f a A outer s H vs Q E j g;exact⟨t,h.nox,q⟩
theorem MethAt.cal{C:Y0}{st:Stmt}{N:W0}{k:Nat}{sp:Sp}(F:MethAt K C m q st .none)(cl:Cls K C)(S:Ar N ps (Bh st))(bi:Gz K m q st .none ps [])(len:∀vs H Q E,sp vs H Q E->vs.length=ps.length)
  (hbody:∀(f:Y0) (a:W2) (A:W7) (outer:List Env) (s:U7) (H:Hp) (vs:List V) (Q:VK) (E:XK),Bl k (A.deeper (envOfC q (Bh st) s.heap.objs.size f a))->sp vs H Q E ->
   ∃t,GF (Fi GP P w K mg base N q (Bh st) f a A outer s H E).nox (Cj st) t/\t { nx:=λ_ H'=>Q .non H',rt:=Q} (start N vs) H):Cu P w K mg base (k+1) C m ps sp:=by
 obtain⟨f,kV,b,c,d,a,ct,M,G⟩:=F.run (P:=P) (w:=w) (mg:=mg) (base:=base) S len hbody;exact⟨f,_,G,bi kV b c d a ct,M,cl⟩
end
theorem Y7l{X:Cx}{e:Expr}:PE X e (λ_ _ _=>False):=λ_ _ _ _ _ _ h=>h.elim
end L2
namespace CP
open L2 Am Pc Ba Hw
open Lk hiding Qa
open G8 (Mk)
open Jo (ev)
open Ai (top Bs Ce BR Bx Rw Steps Gm st WT kY Gj)
open Bw (Jl)
open Ci (lX FT Wi Qo T3)
noncomputable def off (H:Hp)(a:Y0):Hp:=λb=>if b=a then none else H b
variable{H:Hp}{a b:Y0}
theorem Gs(h:b≠a):off H a b=H b:=if_neg h
theorem Nx{u:HO}(h:off H a b=some u):b≠a/\H b=some u:=by
 by_cases e:b=a
 ·rw[off,if_pos e]at h;cases h
 ·rw[Gs e]at h;exact⟨e,h⟩
theorem wZ{H':Hp}(s:Same H H'):Same (off H a) H':=λb u h=>s _ _ (Nx h).2
theorem XF{H':Hp}{o:HO}(s:Same (off H a) H'):Same (off H a) (upd H' a o):=λb u h=>by rw[CK (Nx h).1];exact s _ _ h
section
variable {K:U0}{H H':Hp}{a C dx:Y0}{fs:List (Str×V)}
theorem Wa{p:Y0}{xs:List V}(h:Ah K H p xs)(e:H a=some (.ins C dx fs)):Ah K (off H a) p xs:=by
 rcases h with (h | h) | h
 ·exact .inl (.inl (by rw[Gs (Gg h e (by intro z;cases z))];exact h))
 ·obtain⟨o,h⟩:=h;exact .inl (.inr ⟨o,by rw[Gs (Gg h e (by intro z;cases z))];exact h⟩)
 ·exact .inr h
variable{f:Nat->A5}{c n m:Nat}
theorem X7y{l:Y0}{ps:U3}(b:Bx K H l ps f c n m)(e:H a=some (.ins C dx fs)):Bx K (off H a) l ps f c n m :=
 ⟨by rw[Gs (Gg b.lst e (by intro z;cases z))];exact b.lst,b.len,λi p hp=>Wa (b.vals i p hp) e,b.ok⟩
theorem VD{l:Y0}{ps:U3}{o:HO}(b:Bx K H l ps f c n m)(e:H a=some (.ins C dx fs)):Bx K (upd H a o) l ps f c n m:=(X7y b e).same (XF (wZ (Same.refl _)))
end
noncomputable abbrev GK (C dx:Y0)(c:Nat)(s l:Y0):HO:=.ins C dx [("cells",.int c),("chance",.ref s),("board",.ref l)]
structure Hc (K:U0) (C:Y0):Prop where
 cls:Cls K C
 n1:Ca K C "cells"
 n2:Ca K C "chance"
 n3:Ca K C "board"
def kI (C aS:Y0):Sp:=λvs H Q _=>∃(a dx:Y0) (c x:Nat),vs=[.ref a,.int c,.int x]/\H a=some (.ins C dx [])/\1<=c/\c<=6/\x<2^c/\Q .non (upd H a (.ins C dx [("cells",.int c),("chance",.ref aS)]))
def QX (K:U0)(C aS:Y0):Sp:=λvs H Q _=>∃(a dx:Y0) (c x:Nat),vs=[.ref a,.int c,.int x]/\H a=some (.ins C dx [])/\1<=c/\c<=6/\x<2^c /\
 ∀(H':Hp) (r:Y0) (qs:U3),Same (off H a) H'->H r=none->H' a=some (GK C dx c aS r)->Bx K H' r qs (st x) c 100 40->Q .non H'
def Ux (K:U0)(C:Y0):Sp:=λvs H Q _=>∃(a dx s l lr:Y0) (ps rp:U3) (f:Nat->A5) (c n M:Nat) (ms:List Gm),vs=[.ref a,.ref lr]/\H a=some (GK C dx c s l)/\Rw H lr rp ms c/\Bx K H l ps f c n M/\c<=6/\M<=300/\n<=210000 /\
 ∀(H':Hp) (r:Y0) (qs:U3) (g:Nat->A5),Same (off H a) H'->H' a=some (GK C dx c s r)->Bx K H' r qs g c (n+1010*ms.length) (M+ms.length)->Steps c ms f g->Q .non H'
def Ib (K:U0)(C:Y0):Sp:=λvs H Q _=>∃(a dx s l p:Y0) (ps:U3) (f:Nat->A5) (c n M:Nat) (m:Gm),vs=[.ref a,.ref p]/\H a=some (GK C dx c s l)/\H p=some (Ai.Gy m.nm m.ns)/\m.Ok c/\Bx K H l ps f c n M/\c<=6/\M<=300/\n<=210000 /\
 ∀(H':Hp),Same (off H a) H'->Q .non H'
def KJ (K:U0)(C:Y0):Sp:=λvs H Q _=>∃(a dx s l:Y0) (ps:U3) (f:Nat->A5) (c n M:Nat),vs=[.ref a]/\H a=some (GK C dx c s l)/\Bx K H l ps f c n M/\1<=c/\c<=6 /\
 ∀(H':Hp) (b dy r:Y0),H b=none->Same H H'->H' b=some (GK C dy c s r)->Bx K H' r ps f c n M->Q (.ref b) H'
def uw (K:U0)(C:Y0):Sp:=λvs H Q _=>∃(a dx s l p:Y0) (ps:U3) (f:Nat->A5) (c n m:Nat) (mk:Mk) (o:Nat),vs=[.ref a,.ref p,.int o]/\H a=some (GK C dx c s l)/\Bx K H l ps f c n m/\c<=6/\n<=800/\m<=90/\H p=some (Bw.T3 mk)/\Jl c mk/\ev mk/\o<2 /\
 (∃i,i<2^c/\CV mk.1 mk.2.1 mk.2.2 f i≠Bk (f i) (4*(1-o):Nat)) /\
 ∀(H':Hp) (r t:Y0) (qs:U3) (g:Nat->A5) (x y z:Int),Same (off H a) H'->H r=none->H' a=some (GK C dx c t r)->Bx K H' r qs g c (n+2*m+2) (m+1)->Eo mk.1 mk.2.1 mk.2.2 (sg o) (2^c) f g->H' t=some (T3 x y z)->He g (2^c) x y z->Q .non H'
def qY (K:U0)(C:Y0):Sp:=λvs H Q E=>∃(a dx s l p:Y0) (c:Nat),vs=[.ref a,.ref p]/\H a=some (GK C dx c s l)/\Wi K [.ref l,.ref p] H Q E
def kj (K:U0)(C:Y0):Sp:=λvs H Q _=>∃(a dx s l:Y0) (c:Nat) (ys:List V),vs=[.ref a]/\H a=some (GK C dx c s l)/\Af K H l ys/\∀r,H r=none->Q (.ref r) (upd H r (.lst ys))
section
variable {P:U8}{w:W1}{K:U0}{mg:U4}{base:Heap}{k:Nat}{h:Heap}{C aS:Y0}
theorem HD:Ar ["self","cells","word"] ["self","cells","word"] (Bh (BP (top 113) 0)):=fS
theorem _7{CH:Y0}(gSURE:mg "SURE"=some (.ref aS))(kc:Hc K C)(F:MethAt K CH "__init__" "Holder.__init__" (BP (top 113) 0) .none)(mH:mg "Holder"=some (.ref CH))(g1:PySem.W.specialIn K (.ref CH) "__getattribute__"=some (some (.builtin "type.__getattribute__")))
  (g2:PySem.W.readsIn K CH (.type "type")=true) (g3:∀f,PySem.W.findIn K (.ref CH) "__init__"=some (some (.ref f))->PySem.W.findCls K (.ref CH) (.type "type") "__init__"=some (.val (.ref f)))
  (cB:Ag P w K mg base k "check_beginning" ["cells","word"] WT):Pb P w K mg base (k+1) "Holder" "__init__" ["self","cells","word"] (kI C aS):=by
 have nd:=HD.nd
 suffices R:∃f kV d e g b ct,Meth K CH "__init__" f/\Cd P w K mg base GP (k+1) f (PySem.W.fnOf "__init__" "Holder.__init__" (Cr (BP (top 113) 0)) (Cj (BP (top 113) 0)) (Bh (BP (top 113) 0)) .none kV d e g b ct) ["self","cells","word"] (kI C aS) by
  obtain⟨f,kV,d,e,g,b,ct,M,G⟩:=R;exact⟨CH,f,_,G,(HW λ_ _ _ _ _ _ us m=>match us,m with | [_,_,_],_=>rfl) kV d e g b ct,M.kp,mH,g1,g2,g3 f M.at_⟩
 refine F.run HD (λvs H Q E h=>?_) (λf b A outer s H vs Q E j h=>?_)
 ·obtain⟨a,dx,c,x,rfl,_⟩:=h;rfl
 obtain⟨a,dx,c,x,rfl,i,c1,c6,l,q⟩:=h
 refine⟨_,(@Ak _ _ _ _ _ (Hg (Av cB j rfl (Ab (pv 1) (Ab (pv 2) Ae))))
  (@Ak _ _ _ _ _ (Nt (pv 0) (pv 1) rfl)
  (@Aj _ _ _ (Nt (pv 0) (Jw (v:=.ref aS) rfl gSURE rfl) rfl)))),?_⟩
 try dsimp only[Bg]
 refine⟨_,U,_,U,c,x,U,c1,c6,l,?_⟩;refine⟨_,U,_,U,a,C,dx,_,U,i,kc.cls,kc.n1,by decide,?_⟩;refine⟨_,U,a,C,dx,_,U,Ao,kc.cls,kc.n2,by show 1<1000;decide,?_⟩;rw[uN];exact q
theorem HF:Ar ["self","cells","word"] ["self","cells","word"] (Bh (BP (top 114) 0)):=fS
theorem _2{dV:W2}{ds:U5}(kc:Hc K C)(F:MethAt K C "__init__" "AmountHolder.__init__" (BP (top 114) 0) dV)(bi:Gz K "__init__" "AmountHolder.__init__" (BP (top 114) 0) dV ["self","cells","word"] ds)(hd:Vals [.int 0] ds)(mk:PySem.W.makesIn K C=true)(kp:PySem.W.keepIn K (.ref C)=true)(mC:mg "AmountHolder"=some (.ref C))
  (eI:Pb P w K mg base k "Holder" "__init__" ["self","cells","word"] (kI C aS)) (eO:Ag P w K mg base k "start" ["cells","word"] (kY K)):JH P w K mg base (k+1) "AmountHolder" C ["self","cells","word"] (QX K C aS) [.int 0]:=by
 have nd:=HF.nd
 suffices R:∃f kV g i j d ct,Meth K C "__init__" f/\Cd P w K mg base GP (k+1) f (PySem.W.fnOf "__init__" "AmountHolder.__init__" (Cr (BP (top 114) 0)) (Cj (BP (top 114) 0)) (Bh (BP (top 114) 0)) dV kV g i j d ct) ["self","cells","word"] (QX K C aS) by
  obtain⟨f,kV,g,i,j,d,ct,M,G⟩:=R;exact⟨f,_,_,G,bi kV g i j d ct,hd,⟨mk,M.at_,M.fn,kp⟩,mC⟩
 refine F.run HF (λvs H Q E h=>?_) (λf d A outer s H vs Q E l h=>?_)
 ·obtain⟨a,dx,c,x,rfl,_⟩:=h;rfl
 obtain⟨a,dx,c,x,rfl,t,c1,c6,o,p⟩:=h
 refine⟨_,(@Ak _ _ _ _ _ (Hg (X5z eI l rfl (Ab (pv 0) (Ab (pv 1) (Ab (pv 2) Ae)))))
  (@Aj _ _ _ (Nt (pv 0) (Av eO l rfl (Ab (pv 1) (Ab (pv 2) Ae))) rfl))),?_⟩
 try dsimp only[Bg]
 refine⟨_,U,_,U,_,U,a,dx,c,x,U,t,c1,c6,o,?_⟩;refine⟨_,U,_,U,c,x,U,c1,c6,o,λr H1 q e m y=>?_⟩;have n:=m _ _ Ao;refine⟨_,U,a,C,dx,_,U,n,kc.cls,kc.n3,by show 2<1000;decide,?_⟩;refine p _ r q (XF λb u h=>m _ _ (by rw[CK (Nx h).1];exact(Nx h).2)) ?_ Ao (VD y n);have v:r≠a:=λz=>by rw[z,Ao]at e;cases e
 rw[CK v]at e;exact e
theorem GR:Ar ["self","row"] ["self","row"] (Bh (BP (top 114) 1)):=fS
theorem Y4l(kc:Hc K C)(F:MethAt K C "turn_by" "AmountHolder.turn_by" (BP (top 114) 1) .none)(eV:Ag P w K mg base k "run" ["board","row"] (Gj K)):Cu P w K mg base (k+1) C "turn_by" ["self","row"] (Ux K C):=by
 have nd:=GR.nd;refine F.cal kc.cls GR (HW λ_ _ _ _ _ _ us x=>match us,x with | [_,_],_=>rfl) (λvs H Q E h=>?_) (λf p A outer s H vs Q E u h=>?_)
 ·obtain⟨a,dx,s,l,lr,ps,d,f,c,n,M,ms,rfl,_⟩:=h;rfl
 obtain⟨a,dx,s,l,lr,ps,d,f,c,n,M,ms,rfl,b,m,z,c6,y,j,o⟩:=h;refine⟨_,(@Aj _ _ _ (Nt (pv 0) (Av eV u rfl (Ab (La (pv 0) rfl) (Ab (pv 1) Ae))) rfl)),?_⟩;try dsimp only[Bg]
 refine⟨_,U,a,C,dx,_,_,U,b,kc.cls,kc.n3,U,_,U,l,lr,ps,d,f,c,n,M,ms,U,m,z,c6,y,j,λr H1 t g B e v q=>?_⟩;have i:=e _ _ b;exact⟨_,U,a,C,dx,_,U,i,kc.cls,kc.n3,by show 3<1000;decide,o _ r t g (XF (wZ e)) Ao (VD v i) q⟩
theorem FW:Ar ["self","row"] ["self","row"] (Bh (BP (top 113) 2)):=fS
theorem Y2a(kc:Hc K C)(B:Bs mg)(F:MethAt K C "take_row" "Holder.take_row" (BP (top 113) 2) .none)(eH:Cu P w K mg base k C "turn_by" ["self","row"] (Ux K C)):Cu P w K mg base (k+1) C "take_row" ["self","row"] (Ux K C):=by
 have nd:=FW.nd;refine F.cal kc.cls FW (HW λ_ _ _ _ _ _ us o=>match us,o with | [_,_],_=>rfl) (λvs H Q E h=>?_) (λf j A outer s H vs Q E m h=>?_)
 ·obtain⟨a,dx,s,l,lr,ps,e,f,c,n,M,ms,rfl,_⟩:=h;rfl
 obtain⟨a,dx,s,l,lr,ps,e,f,c,n,M,ms,rfl,d,b,q,c6,p,g,i⟩:=h
 refine⟨_,(@Ak _ _ _ _ _ (CQ (E_ (Dv (Cm J7 rfl B.isinstance Ik (Ab (pv 1) (Ab (I_ (v:=.ty "list") rfl B.list Ph rfl) Ae)))))
   (@Aj _ _ _ Gh)
   CT)
  (@Aj _ _ _ (Hg (QS eH m (pv 0) (Ab (pv 1) Ae))))),?_⟩
 try dsimp only[Bg]
 refine⟨_,U,_,_,_,true,U,CZ.lst b.lst,mK K,_,U,Bc ?_⟩;exact⟨_,U,a,dx,_,U,d,U,_,U,a,dx,s,l,lr,ps,e,f,c,n,M,ms,U,d,b,q,c6,p,g,i⟩
theorem JV:Ar ["self","move"] ["self","move"] (Bh (BP (top 113) 1)):=fS
theorem X2r(kc:Hc K C)(F:MethAt K C "take" "Holder.take" (BP (top 113) 1) .none)(cS:Cu P w K mg base k C "take_row" ["self","row"] (Ux K C)):Cu P w K mg base (k+1) C "take" ["self","move"] (Ib K C):=by
 have nd:=JV.nd;refine F.cal kc.cls JV (HW λ_ _ _ _ _ _ us i=>match us,i with | [_,_],_=>rfl) (λvs H Q E h=>?_) (λf t A outer s H vs Q E v h=>?_)
 ·obtain⟨a,dx,s,l,p,ps,f,c,n,M,m,rfl,_⟩:=h;rfl
 obtain⟨a,dx,s,l,p,ps,f,c,n,M,m,rfl,j,hp,ok,B,c6,z,o,q⟩:=h;refine⟨_,(@Aj _ _ _ (Hg (QS cS v (pv 0) (Ab (@Gv _ _ _ _ (Ab (pv 1) Ae)) Ae)))),?_⟩;try dsimp only[Bg]
 refine⟨_,U,a,dx,_,U,j,U,_,U,(show 1<=sizeLine by decide),λlr i=>?_⟩;have d:=Ax i (.lst [.ref p]);refine⟨a,dx,s,l,lr,ps,[p],f,c,n,M,[m],U,d _ _ j,⟨Ao,.cons (d _ _ hp) .nil,(λx y=>by rw[Ko.mp y];exact ok),(show 1<=200 by decide)⟩,B.same d,c6,z,o,λH' r D g S e _ _=>q H' (λb u h=>S _ _ ?_)⟩;rw[Gs (Nx h).1];exact d _ _ (Nx h).2
theorem JR:Ar ["self"] ["self"] (Bh (BP (top 114) 4)):=fS
theorem X2p(kc:Hc K C)(B:Bs mg)(F:MethAt K C "told_board" "AmountHolder.told_board" (BP (top 114) 4) .none):Cu P w K mg base (k+1) C "told_board" ["self"] (kj K C):=by
 have nd:=JR.nd;refine F.cal kc.cls JR (HW λ_ _ _ _ _ _ us g=>match us,g with | [_],_=>rfl) (λvs H Q E h=>?_) (λf d A outer s H vs Q E j h=>?_)
 ·obtain⟨a,dx,s,l,c,ys,rfl,_⟩:=h;rfl
 obtain⟨a,dx,s,l,c,ys,rfl,e,i,b⟩:=h;refine⟨_,(@Aj _ _ _ (Ay (IV mD rfl B.list Ph (Ab (La (pv 0) rfl) Ae)))),?_⟩;try dsimp only[Bg]
 exact⟨_,U,a,C,dx,_,_,U,e,kc.cls,kc.n3,U,l,ys,U,.inl i,b⟩
theorem JW:Ar ["self","mark"] ["self","mark"] (Bh (BP (top 114) 3)):=fS
theorem X2u(kc:Hc K C)(F:MethAt K C "shares_of" "AmountHolder.shares_of" (BP (top 114) 3) .none)(eJ:Ag P w K mg base k "looked" ["board","mark"] (Wi K)):Cu P w K mg base (k+1) C "shares_of" ["self","mark"] (qY K C):=by
 have nd:=JW.nd;refine F.cal kc.cls JW (HW λ_ _ _ _ _ _ us i=>match us,i with | [_,_],_=>rfl) (λvs H Q E h=>?_) (λf d A outer s H vs Q E g h=>?_)
 ·obtain⟨a,dx,s,l,p,c,rfl,_⟩:=h;rfl
 obtain⟨a,dx,s,l,p,c,rfl,e,b⟩:=h;refine⟨_,(@Aj _ _ _ (Ay (Av eJ g rfl (Ab (La (pv 0) rfl) (Ab (pv 1) Ae))))),?_⟩;try dsimp only[Bg]
 exact⟨_,U,a,C,dx,_,_,U,e,kc.cls,kc.n3,U,_,U,b⟩
theorem GX:Ar ["self","mark","outcome"] ["self","mark","outcome"] (Bh (BP (top 114) 2)):=fS
theorem Y4n(kc:Hc K C)(F:MethAt K C "settle" "AmountHolder.settle" (BP (top 114) 2) .none)(eG:Ag P w K mg base k "settled" ["board","mark","outcome"] (lX K))(cU:Ag P w K mg base k "heft" ["board"] (FT K)):Cu P w K mg base (k+1) C "settle" ["self","mark","outcome"] (uw K C):=by
 have nd:=GX.nd;refine F.cal kc.cls GX (HW λ_ _ _ _ _ _ us V=>match us,V with | [_,_,_],_=>rfl) (λvs H Q E h=>?_) (λf N A outer s H vs Q E I h=>?_)
 ·obtain⟨a,dx,s,l,p,ps,f,c,n,m,D,o,rfl,_⟩:=h;rfl
 obtain⟨a,dx,s,l,p,ps,f,c,n,m,D,o,rfl,G,W,c6,Y,X,hp,ok,e,o2,O,M⟩:=h
 refine⟨_,(@Ak _ _ _ _ _ (Nt (pv 0) (Av eG I rfl (Ab (La (pv 0) rfl) (Ab (pv 1) (Ab (pv 2) Ae)))) rfl)
  (@Aj _ _ _ (Nt (pv 0) (Av cU I rfl (Ab (La (pv 0) rfl) Ae)) rfl))),?_⟩
 try dsimp only[Bg]
 refine⟨_,U,a,C,dx,_,_,U,G,kc.cls,kc.n3,U,_,U,_,U,l,p,ps,f,c,n,m,D,o,U,W,c6,by omega,by omega,hp,ok,e,o2,O,λr H1 B g j J T R _=>?_⟩;have L:=J _ _ G;refine⟨_,U,a,C,dx,_,U,L,kc.cls,kc.n3,by show 3<1000;decide,?_⟩;have v:=VD (o:=GK C dx c s r) T L;refine⟨_,U,a,C,dx,_,_,U,Ao,kc.cls,kc.n3,U,r,B,g,c,_,_,U,v,c6,by omega,by omega,λt H2 x y z d q S _ _ _=>?_⟩;have i:=d _ _ (Ao (H:=H1) (a:=a) (o:=GK C dx c s r));refine⟨_,U,a,C,dx,_,U,i,kc.cls,kc.n2,by show 3<1000;decide,?_⟩;refine M _ r t B g x y z (XF λb u h=>d _ _ (by rw[CK (Nx h).1];exact J _ _ (Nx h).2)) j Ao (VD (v.same d) i) R ?_ S;rw[CK (Gg q i (by intro z;cases z))];exact q
theorem JQ:Ar ["self","other"] ["self"] (Bh (BP (top 114) 6)):=fS
theorem X2o(kc:Hc K C)(B:Bs mg)(F:MethAt K C "twin" "AmountHolder.twin" (BP (top 114) 6) .none)(cF:JH P w K mg base k "AmountHolder" C ["self","cells","word"] (QX K C aS) [.int 0]):Cu P w K mg base (k+2) C "twin" ["self"] (KJ K C):=by
 have nd:=JQ.nd;refine F.cal kc.cls JQ (HW λ_ _ _ _ _ _ us J=>match us,J with | [_],_=>rfl) (λvs H Q E h=>?_) (λf y A outer s H vs Q E G h=>?_)
 ·obtain⟨a,dx,s,l,ps,f,c,n,M,rfl,_⟩:=h;rfl
 obtain⟨a,dx,s,l,ps,f,c,n,M,rfl,d,g,c1,c6,x⟩:=h
 refine⟨_,(@Ak _ _ _ _ _ (@Bd _ _ 1 _ _ _ _ nd rfl (Or.inl rfl) (vI cF G rfl (Ab (La (pv 0) rfl) Ae)) rfl (.inl rfl))
  (@Ak _ _ _ _ _ (Nt (pv 1) (IV mD rfl B.list Ph (Ab (La (pv 0) rfl) Ae)) rfl)
  (@Ak _ _ _ _ _ (Nt (pv 1) (La (pv 0) rfl) rfl)
  (@Aj _ _ _ (Ay (pv 1)))))),?_⟩
 try dsimp only[Bg]
 refine⟨_,U,a,C,dx,_,_,U,d,kc.cls,kc.n1,U,λb i hb p N=>?_⟩;refine⟨b,i,c,0,U,Ao,c1,c6,Kh c,λH1 r L I _ m _=>⟨U,?_⟩⟩;have S:Same H H1:=λb' u h=>I _ _ (by rw[Gs (JF h hb),CK (JF h hb),CK (JF h p)];exact h);have t:=S _ _ d;refine⟨_,U,a,C,dx,_,_,U,t,kc.cls,kc.n3,U,l,_,U,.inl (Af.of (g.same S).lst),λo q=>?_⟩;have e:=Ax q (.lst (ps.map V.ref));have v:=e _ _ m;refine⟨_,U,b,C,i,_,U,v,kc.cls,kc.n3,by show 3<1000;decide,?_⟩;have j:a≠b:=λz=>by rw[z,hb]at d;cases d
 refine⟨_,U,a,C,dx,_,_,U,(by rw[CK j];exact e _ _ t),kc.cls,kc.n2,U,?_⟩;refine⟨_,U,b,C,i,_,U,Ao,kc.cls,kc.n2,by show 3<1000;decide,?_⟩;rw[uN];have D:Bx K (upd H1 o (.lst (ps.map V.ref))) o ps f c n M:=⟨Ao,g.len,(g.same (S.trans e)).vals,g.ok⟩;exact⟨_,U,x _ b i o hb (Et (S.trans e) hb) Ao (VD D v)⟩
end
end CP
namespace xV
open Ba Am Pc Hw Lq
open Lk hiding Qa
open G8 (Mk)
open Jo (ev)
variable {c:Nat}{f:Nat->A5}{R:List Mk}{m:Mk}
theorem qF{o:Nat}(ho:o<2){x y:A5}(ax:Fy x)(e:y=Bk x (4*o:Nat)):Bu (sg o) x y x:=by
 subst e;refine Bu.of (M:=x.2) ax ax.nn ax.nn (Ln _) (Ln _) (Ln _) ?_;rw[lN,w6 ho,X8g,X8k ho,xH];refine Iz ?_ ?_ ?_ ?_<;>simp only[Lk.sm,Lk.add]<;>omega
end xV
namespace L2
def RX (K:U0):R2:=λx y H Q=>∃a b xs ys,x=.ref a/\y=.ref b/\Ah K H a xs/\Ah K H b ys/\xs.length+ys.length<=sizeLine/\(xs=[]->Q (.ref b) H)/\(xs≠[]->ys≠[]/\∀p,H p=none->Q (.ref p) (upd H p (.tup (xs++ys))))
theorem X2m{X:Cx}:C_ X (binaryOp .Add) (RX X.K):=by
 intro pins s σ H x y v u Q I q p h;obtain⟨a,b,xs,ys,rfl,rfl,m,hb,F,C,l⟩:=h;by_cases e:xs=[]
 ·cases q;cases p;obtain⟨its,D,B,_⟩:=I.tuple m;obtain⟨w,L,p2,_⟩:=I.tuple hb;have E:its=[]:=D.nil_iff.mpr e;obtain⟨⟨G,dd,data,J⟩,o,r,n,k⟩:=B;obtain⟨⟨t,g,i,j⟩,c,f,A,d⟩:=p2;simp only at r k f d;subst r k f d;exact YG ⟨_,o,U⟩ ⟨_,c,U⟩ Ye YL Yz Y5 (Y8 _ _) (tuple_addW0 a b _ _ n A dd g J j (by simp[E])) ⟨o,c,.ref b,H,I,U,C e⟩
 ·exact X2l pins s σ H _ _ v u Q I q p ⟨a,b,xs,ys,U,U,m,hb,e,F,λz=>absurd z (l e).1,λz=>(l e).2⟩
def RT (K:U0):R2:=λx y H Q=>∃a b xs ys,x=.ref a/\y=.ref b/\Ah K H a xs/\Ah K H b ys/\ys≠[]/\xs.length+ys.length<=sizeLine/\∀(p:Y0) (H':Hp),Same H H'->Ah K H' p (xs++ys)->Q (.ref p) H'
theorem X2k{X:Cx}:C_ X (binaryOp .Add) (RT X.K):=by
 intro pins s σ H x y v u Q I g d h;obtain⟨a,b,xs,ys,rfl,rfl,c,hb,f,i,q⟩:=h;refine X2m pins s σ H _ _ v u Q I g d ⟨a,b,xs,ys,U,U,c,hb,i,λe=>q b H (Same.refl _) ?_,λ_=>⟨f,λp hp=>q p _ (Ax hp _) (Ah.of Ao)⟩⟩;rw[e];exact hb
end L2
namespace CP
open L2 Am Pc Ba Hw Lq Hr Mx
open Lk hiding Qa
open G8 (Mk)
open Jo (ev)
open Ai (top Bs Ce BR Bx Rw Steps Gm st K1)
open Bw (Jl)
open Ci (Qo T3 S3)
open xV (qF)
noncomputable abbrev Oi:A5:=((1,0,0,0),0)
noncomputable def bt (w k:Nat):Nat:=w / 2^k%2
noncomputable def Io (k:Nat):Mk:=(0,0,2^k)
theorem mj(w:Nat):st w w=Oi:=if_pos rfl
variable{w i:Nat}
theorem vM(h:i≠w):st w i=nought:=if_neg h
theorem VB(w i:Nat):Fy (st w i):=(K1 w i).amt
theorem VF(w k:Nat):bt w k<2:=Nat.mod_lt _ (by decide)
theorem X6b:∀k,k<3->∀w,w<8->pc (w&&&2^k)=bt w k:=by decide +kernel
theorem mW(k:Int):Bk nought k=nought:=by
 have:∀j,Bb j (0,0,0,0)=(0,0,0,0):=λj=>by
  induction j with
  | zero=>rfl
  | succ j ih=>show (_,_)=_;rw[ih];rfl
 show (Bb _ _,_)=_;rw[this]
theorem WL{k:Nat}(hk:k<3)(hw:w<8):CV 0 0 (2^k) (st w) i=Bk (st w i) (4*bt w k:Nat):=by
 unfold CV;rw[Nat.xor_zero];by_cases e:i=w
 ·subst e;rw[X6b k hk i hw];congr 1;omega
 ·rw[vM e,mW,mW]
theorem X6e:∀o,o<2->Bk Oi (4*o:Nat)≠Bk Oi (4*(1-o):Nat):=by decide
theorem w8{c:Nat}(c3:c<=3)(h:w<2^c):w<8:=GC h (QC (by decide) c3:2^c<=2^3)
variable {c w k o:Nat}{g:Nat->A5}
theorem sG(c3:c<=3)(hk:k<c)(hw:w<2^c)(h:Eo 0 0 (2^k) (sg (bt w k)) (2^c) (st w) g):∀i,i<2^c->g i=st w i:=λi hi =>
 (h i hi).unique (qF (VF w k) (VB w i) (WL (by omega) (w8 c3 hw)))
theorem X3y(c3:c<=3)(hk:k<c)(hw:w<2^c)(ho:o<2)(ne:o≠bt w k)(h:Eo 0 0 (2^k) (sg o) (2^c) (st w) g):∀i,i<2^c->g i=nought:=λi hi=>by
 refine(qG ho (VB w i) ?_ (h i hi)).mpr ?_
 ·rw[WL (by omega) (w8 c3 hw)];exact WD (VB w i)
 ·rw[WL (by omega) (w8 c3 hw)];have:=VF w k;rw[show bt w k=1-o by omega]
theorem X7p:∀c,c<4->∀w,w<2^c->Fl (st w) (2^c) 1 0 1 0:=by
 unfold Fl;decide +kernel
theorem X9t(c3:c<=3)(hw:w<2^c):He (st w) (2^c) 1 0 1:=He.of (by decide) (by unfold J_;decide) (Ln 0) (λi _=>by
 by_cases e:i=w
 ·rw[e,mj];decide
 ·rw[vM e];decide) (X7p c (by omega) w hw)
variable{f:Nat->A5}{n:Nat}
theorem uM(h:∀i,i<n->g i=f i)(M:Int):CN g n M=CN f n M/\A_ g n M=A_ f n M :=
 ⟨U_ λi hi=>by rw[h i hi],U_ λi hi=>by rw[h i hi]⟩
variable{x y z:Int}
theorem X9u(c3:c<=3)(hw:w<2^c)(e:∀i,i<2^c->g i=st w i)(h:He g (2^c) x y z):x=1/\y=0/\z=1:=h.unique (X9t c3 hw) ⟨0,λM _=>uM e M⟩
theorem mJ(hw:w<2^c):Qo (st w) c:=⟨w,hw,by rw[mj];decide⟩
theorem X8j(hw:w<2^c)(e:∀i,i<2^c->g i=st w i)(h:Sh (st w) g (2^c) x y z):x=1/\y=0/\z=1 :=
 h.same (Sh.one (f:=st w)) (λi _=>VB w i) (mJ hw) ⟨0,λM _=>⟨U,U⟩⟩ ⟨0,λM _=>uM e M⟩
theorem X8i(hw:w<2^c)(e:∀i,i<2^c->g i=nought)(h:Sh (st w) g (2^c) x y z):x=0/\y=0/\z=1 :=
 h.same (Sh.none (f:=st w) e) (λi _=>VB w i) (mJ hw) ⟨0,λM _=>⟨U,U⟩⟩ ⟨0,λM _=>⟨U,U⟩⟩
theorem vG(hk:k<c):Jl c (Io k):=⟨(by show 0<4;decide),Kh c,Nat.pow_lt_pow_right (by decide) hk⟩
theorem Tw:ev (Io k):=by unfold ev Io;rw[Nat.zero_and];show (0+pc 0)%2=0;simp[pc]
theorem Qi{K:U0}{H:Hp}{l:Y0}{ps:U3}{m:Nat}(b:Bx K H l ps g c n m)(e:∀i,i<2^c->g i=st w i):Bx K H l ps (st w) c 100 40 :=
 ⟨b.lst,b.len,λi p hp=>by
  have:i<2^c:=by rw[<-b.len];exact(Fb.mp hp).1
  rw[<-e i this];exact b.vals i p hp,λi _=>K1 w i⟩
theorem Wz{K:U0}{H:Hp}{l fl:Y0}{ps:U3}{m:Nat}{xs ys:List V}(b:Bx K H l ps f c n m)(e:H fl=some (.lst xs))(ne:l≠fl):Bx K (upd H fl (.lst ys)) l ps f c n m :=
 ⟨by rw[CK ne];exact b.lst,b.len,λi p hp=>(b.vals i p hp).upd e,b.ok⟩
noncomputable abbrev oV (o:W3):List V:=o.map λi:Nat=>V.int (i:Int)
structure Way (K:U0) (C:Y0) (H:Hp) (wl t ao a dx s l:Y0) (ps:U3) (o:W3) (f:Nat->A5) (c:Nat):Prop where
 wl:H wl=some (.lst [.ref t])
 t:H t=some (.tup [.ref ao,.ref a])
 ao:Ah K H ao (oV o)
 a:H a=some (GK C dx c s l)
 bd:Bx K H l ps f c 100 40
def Uy (K:U0)(C:Y0):Sp:=λvs H Q _=>∃(wl t ao a dx s l lr:Y0) (ps rp:U3) (f:Nat->A5) (c:Nat) (ms:List Gm) (o:W3),vs=[.ref wl,.ref lr]/\Way K C H wl t ao a dx s l ps o f c/\Rw H lr rp ms c/\c<=6 /\
 ∀(H':Hp) (r:Y0) (qs:U3) (g:Nat->A5) (n m:Nat),Same (off H a) H'->H' a=some (GK C dx c s r)->Bx K H' r qs g c n m->Steps c ms f g->Q .non H'
def uH (K:U0)(C:Y0):Sp:=λvs H Q _=>∃(a dx s l p:Y0) (ps:U3) (c w k:Nat),vs=[.ref a,.ref p,.int (bt w k)]/\H a=some (GK C dx c s l)/\Bx K H l ps (st w) c 100 40/\1<=c/\c<=3/\k<c/\w<2^c/\H p=some (Bw.T3 (Io k)) /\
 ∀(H':Hp) (b dy r t:Y0) (qs:U3),H b=none->H r=none->Same H H'->H' b=some (GK C dy c t r)->Bx K H' r qs (st w) c 100 40->H' t=some (T3 1 0 1)->Q (.ref b) H'
def WY (K:U0)(C:Y0):Sp:=λvs H Q _=>∃(wl t ao a dx s l lr p:Y0) (ps rp:U3) (f:Nat->A5) (c w k:Nat) (ms:List Gm) (o:W3),vs=[.ref wl,.ref lr,.ref p]/\Way K C H wl t ao a dx s l ps o f c/\Rw H lr rp ms c/\1<=c/\c<=3/\k<c/\w<2^c/\H p=some (Bw.T3 (Io k))/\o.length<=6 /\
 (∀g,Steps c ms f g->∀i,i<2^c->g i=st w i) /\
 ∀(H':Hp) (wl' t' ao' a' dx' s' l':Y0) (ps':U3),Same (off H a) H'->H a'=none->Way K C H' wl' t' ao' a' dx' s' l' ps' (o++[bt w k]) (st w) c->H' s'=some (T3 1 0 1)->Q (.ref wl') H'
section
variable {P:U8}{w:W1}{K:U0}{mg:U4}{base:Heap}{k:Nat}{h:Heap}{C aS aV:Y0}
theorem Y2b(kc:Hc K C)(F:Aa K "take_all" (top 135) .none)(X:K.In h)(G:Ng h mg)(cS:Cu P w K mg base k C "take_row" ["self","row"] (Ux K C)):Ag P w K mg base (k+1) "take_all" ["ways","row"] (Uy K C):=by
 refine F.cal X G ["ways","row","outs","holder"] λb H vs Q E y h=>?_;obtain⟨wl,t,D,a,dx,s,l,lr,ps,v,f,c,ms,o,rfl,W,j,c6,m⟩:=h
 refine⟨_,(@Aj _ _ _ (Jv PassesOwn.never rfl (JC (pv 0)) (@O8 _ _ _ _ _ _ rfl (@IK _ _ _ _ _ (@Ck _ _ 2 _ b rfl (Or.inl rfl) (by first | exact .inl rfl | exact .inr rfl)) (@IK _ _ _ _ _ (@Ck _ _ 3 _ b rfl (Or.inl rfl) (by first | exact .inl rfl | exact .inr rfl)) PB rfl) rfl) rfl rfl)
   (@Aj _ _ _ (Hg (QS cS y (pv 3) (Ab (pv 1) Ae)))))),?_⟩
 try dsimp only[Bg]
 refine⟨_,U,wl,U,⟨_,Af.of W.wl⟩,Ur (K:=K) (a:=wl) (xs:=[.ref t]) (λi σ H'=>H' wl=some (.lst [.ref t])/\(i=0->H'=H/\σ=[some (.ref wl),some (.ref lr),none,none])/\(0<i->Q .non H'))
  ⟨W.wl,λ_=>⟨U,U⟩,λz=>absurd z (by decide)⟩ (λi σ H' _ e=>Af.of e.1) ?_ (λσ H' e=>e.2.2 Vi)⟩
 rintro i x σ H1 d ⟨_,u,_⟩;have n:i=0:=by
  have:=(Fb.mp d).1;simp at this;exact this
 subst n;obtain⟨rfl,rfl⟩:=u rfl;cases d;refine⟨t,_,U,Ah.of W.t,U,_,_,U,_,_,U,U,?_⟩;refine⟨_,U,a,dx,_,U,W.a,U,_,U,a,dx,s,l,lr,ps,v,f,c,100,40,ms,U,W.a,j,W.bd,c6,by decide,by decide,λH' r q g S A B p=>?_⟩;refine⟨S _ _ (by rw[Gs (Gg W.wl W.a (by intro z;cases z))];exact W.wl),(λz=>by cases z),λ_=>m H' r q g _ _ S A B p⟩
theorem Y7u(kc:Hc K C)(F:Aa K "settled_twin" (top 136) .none)(X:K.In h)(G:Ng h mg)(eU:Cu P w K mg base k C "twin" ["self"] (KJ K C))(eL:Cu P w K mg base k C "settle" ["self","mark","outcome"] (uw K C)):Ag P w K mg base (k+1) "settled_twin" ["holder","mark","outcome"] (uH K C):=by
 refine F.cal X G ["holder","mark","outcome","twin"] λA H vs Q E o h=>?_;obtain⟨a,dx,s,l,p,ps,c,w,k,rfl,n,S,c1,c3,d,f,hp,q⟩:=h
 refine⟨_,(@Ak _ _ _ _ _ (@Bd _ _ 3 _ _ _ _ A rfl (Or.inl rfl) (tK eU o (pv 0)) rfl (.inl rfl))
  (@Ak _ _ _ _ _ (Hg (QS eL o (pv 3) (Ab (pv 1) (Ab (pv 2) Ae))))
  (@Aj _ _ _ (Ay (pv 3))))),?_⟩
 try dsimp only[Bg]
 refine⟨_,U,a,dx,_,U,n,U,a,dx,s,l,ps,st w,c,100,40,U,n,S,c1,by omega,λH1 b j r hb i e R=>?_⟩;refine⟨_,U,b,j,_,U,e,U,_,U,_,U,b,j,s,r,p,ps,st w,c,100,40,Io k,bt w k,U,e,R,by omega,by decide,by decide,i _ _ hp,vG d,Tw,VF w k,⟨w,f,?_⟩,λH2 B t D g x y z I M L N J v O=>?_⟩
 ·show CV 0 0 (2^k) (st w) w≠_;rw[WL (by omega) (w8 c3 f),mj];exact X6e _ (VF w k)
 have m:=sG c3 d f J;obtain⟨rfl,rfl,rfl⟩:=X9u c3 f m O;exact⟨_,U,q H2 b j B t D hb (i.free M) (λb' u h=>I _ _ (by rw[Gs (JF h hb)];exact i _ _ h)) L (Qi N m) v⟩
end
end CP
namespace CP
open L2 Am Pc Ba Hw Lq Hr Mx
open Lk hiding Qa
open G8 (Mk)
open Jo (ev)
open Ai (top Bs Ce BR Bx Rw Steps Gm st K1)
open Bw (Jl)
open Ci (Qo T3 S3)
theorem X5h{i:Nat}{x:V}(h:([.int 0,.int 1]:List V)[i]?=some x):i<2/\x=.int i:=by
 match i,h with
 | 0,h=>cases h;exact⟨by decide,rfl⟩
 | 1,h=>cases h;exact⟨by decide,rfl⟩
section
variable {P:U8}{w:W1}{K:U0}{mg:U4}{base:Heap}{k:Nat}{h:Heap}{C aS aV:Y0}
theorem Y7s(kc:Hc K C)(gNEVER:mg "NEVER"=some (.ref aV))(hV:∀H,Ah K H aV [.int 0,.int 0,.int 1])(F:Aa K "ways_behind" (top 134) .none)(X:K.In h)(G:Ng h mg)(cR:Ag P w K mg base k "take_all" ["ways","row"] (Uy K C))(dZ:Cu P w K mg base k C "shares_of" ["self","mark"] (qY K C))
  (d9:Ag P w K mg base k "settled_twin" ["holder","mark","outcome"] (uH K C)):Ag P w K mg base (k+1) "ways_behind" ["ways","row","mark"] (WY K C):=by
 refine F.cal X G ["ways","row","mark","further","outs","holder","shares","outcome"] λnd H vs Q E hr h=>?_;obtain⟨wl,t,ao,a,dx,s,l,lr,p,ps,rp,f,c,w,k,ms,o,rfl,W,RW,c1,c3,D,wc,hp,o6,hg,kq⟩:=h
 refine⟨_,(@Ak _ _ _ _ _ (Hg (Av cR hr rfl (Ab (pv 0) (Ab (pv 1) Ae))))
  (@Ak _ _ _ _ _ (@Bd _ _ 3 _ _ _ _ nd rfl (Or.inl rfl) (@Gv _ _ _ _ Ae) rfl (.inl rfl))
  (@Ak _ _ _ _ _ (Jv PassesOwn.never rfl (JC (pv 0)) (@O8 _ _ _ _ _ _ rfl (@IK _ _ _ _ _ (@Ck _ _ 4 _ nd rfl (Or.inl rfl) (by first | exact .inl rfl | exact .inr rfl)) (@IK _ _ _ _ _ (@Ck _ _ 5 _ nd rfl (Or.inl rfl) (by first | exact .inl rfl | exact .inr rfl)) PB rfl) rfl) rfl rfl)
   (@Ak _ _ _ _ _ (@Bd _ _ 6 _ _ _ _ nd rfl (Or.inl rfl) (QS dZ hr (pv 5) (Ab (pv 2) Ae)) rfl (.inl rfl))
   (@Aj _ _ _ (Jv PassesOwn.never rfl (Mj (@Fw _ _ _ _ _ (Ab Ad (Ab Ad Ae)))) (Ck (i:=7) nd rfl (Or.inl rfl))
    (@Aj _ _ _ (CQ (Bq (Ul hr.units) (Al Az (pv 6) (pv 7) (λ_ _=>rfl)) (Jw (v:=.ref aV) rfl gNEVER rfl) (Ac _))
     (@Aj _ _ _ (Hg (Iu V2 V3 V5 Qe (pv 3) (Ab (@Fw _ _ _ _ _ (Ab (Aq X2k (pv 4) (@Fw _ _ _ _ _ (Ab (pv 7) Ae))) (Ab (Av d9 hr rfl (Ab (pv 5) (Ab (pv 2) (Ab (pv 7) Ae)))) Ae))) Ae))))
     CT))))))
  (@Aj _ _ _ (Ay (pv 3)))))),?_⟩
 try dsimp only[Bg]
 refine⟨_,U,_,U,wl,t,ao,a,dx,s,l,lr,ps,rp,f,c,ms,o,U,W,RW,by omega,λH2 r qs g n m S2 a2 B2 ST=>?_⟩;have B2:=Qi B2 (hg g ST);have a0:=S2 _ _ (by rw[Gs (Gg W.wl W.a (by intro z;cases z))];exact W.wl);have t2:=S2 _ _ (by rw[Gs (Gg W.t W.a (by intro z;cases z))];exact W.t);have p2:=S2 _ _ (by rw[Gs (Gg hp W.a (by intro z;cases z))];exact hp);have a6:Ah K H2 ao (oV o):=S2.tup (Wa W.ao W.a);clear B2 W;have B2:=Qi (K:=K) (H:=H2) (l:=r) (ps:=qs) ‹_› (hg g ST);refine⟨Dz _,λfl a4=>?_⟩;have I:=Ax a4 (.lst []);have f3:upd H2 fl (.lst []) fl=some (.lst []):=Ao;generalize upd H2 fl (.lst [])=H3 at I f3 ⊢
 refine⟨_,U,wl,U,⟨_,Af.of (I _ _ a0)⟩,Ur (K:=K) (a:=wl) (xs:=[.ref t]) (λi σ H'=>H' wl=some (.lst [.ref t])/\(i=0->H'=H3/\σ=[some (.ref wl),some (.ref lr),some (.ref p),some (.ref fl),none,none,none,none])/\(0<i->∃v4 v5 v6 v7,σ=[some (.ref wl),some (.ref lr),some (.ref p),some (.ref fl),v4,v5,v6,v7]/\Q (.ref fl) H'))
  ⟨I _ _ a0,λ_=>⟨U,U⟩,λz=>absurd z (by decide)⟩ (λi σ H' _ e=>Af.of e.1) ?_ (λσ H' e=>?_)⟩
 ·rintro i x σ H1 hx ⟨_,e0,_⟩;have i0:i=0:=by
   have:=(Fb.mp hx).1;simp at this;exact this
  subst i0;obtain⟨rfl,rfl⟩:=e0 rfl;cases hx;refine⟨t,_,U,Ah.of (I _ _ t2),U,_,_,U,_,_,U,U,?_⟩;refine⟨_,U,a,dx,_,U,I _ _ a2,U,_,U,a,dx,s,r,p,c,U,I _ _ a2,r,p,qs,st w,c,100,40,Io k,U,B2.same I,by omega,by decide,by decide,I _ _ p2,vG D,Tw,mJ wc,λsh t0 t1 H4 gg x y z S4 b2 h0 h1 al=>?_⟩;have f4:=S4 _ _ f3;have b1:=I.trans S4;refine⟨(show 2<=sizeLine by decide),λtt b9=>?_⟩;have s5:=Ax b9 (.tup [.int 0,.int 1]);have N:upd H4 tt (.tup [.int 0,.int 1]) tt=some (.tup [.int 0,.int 1]):=Ao;generalize upd H4 tt (.tup [.int 0,.int 1])=H5 at s5 N ⊢;have a7:=b1.trans s5;have a8:=s5 _ _ b2;have a9:=s5 _ _ h0;have c4:=s5 _ _ h1;have f5:=s5 _ _ f4;have b6:∀H',Same H2 H'->∀t' d a' j s' T A,H2 a'=none->Way K C H' fl t' d a' j s' T A (o++[bt w k]) (st w) c->H' s'=some (T3 1 0 1)->Q (.ref fl) H':=λH' S t' d a' j s' T A na W' Z=>by
   refine kq H' fl t' d a' j s' T A (S2.trans S) ?_ W' Z;have c0:a'≠a:=λz=>by rw[z,a2]at na;cases na
   have:=S2.free na;rw[Gs c0]at this;exact this
  refine⟨tt,U,⟨_,Ah.of N⟩,j4 (K:=K) (a:=tt) (xs:=[.int 0,.int 1]) (λi σ H'=>Same H2 H'/\H' tt=some (.tup [.int 0,.int 1])/\H' sh=some (.tup [.ref t0,.ref t1])/\H' t0=some (T3 (x 0) (y 0) (z 0))/\H' t1=some (T3 (x 1) (y 1) (z 1))/\(∃v7,σ=[some (.ref wl),some (.ref lr),some (.ref p),some (.ref fl),some (.ref ao),some (.ref a),some (.ref sh),v7])/\(i<=bt w k->H' fl=some (.lst []))/\(bt w k<i->Q (.ref fl) H'/\∃xs,H' fl=some (.lst xs)))
   ⟨a7,N,a8,a9,c4,⟨none,U⟩,λ_=>f5,λz=>absurd z (Oc _)⟩ (λi σ H' _ e=>Ah.of e.2.1) ?_ (λσ H' e=>?_)⟩
  ·rintro i x' σ H6 b8 ⟨S6,a1,O,Y,R,⟨v7,rfl⟩,f6,q6⟩;obtain⟨i2,rfl⟩:=X5h b8;obtain⟨ti,b5,b7⟩:∃ti,Ez ([.ref t0,.ref t1]:List V) (i:Int)=some (.ref ti)/\H6 ti=some (T3 (x i) (y i) (z i)):=by
    have:i=0\/i=1:=by omega
    rcases this with rfl | rfl
    ·exact⟨t0,U,Y⟩
    ·exact⟨t1,U,R⟩
   obtain⟨HB,_,SH,_⟩:=al i i2;refine⟨_,U,_,U,sh,_,_,_,U,U,Ah.of O,b5,ti,aV,[x i,y i,z i],[0,0,1],U,U,Ah.of b7,hV _,_,U,?_⟩;by_cases e:i=bt w k
   ·subst e;obtain⟨ex,ey,ez⟩:=X8j wc (sG c3 D wc HB) SH;rw[ex,ey,ez];refine DQ ?_;have f6:=f6 (Bj _);refine⟨_,U,.inl ⟨U,_,Af.of f6⟩,_,U,_,U,(show 1<=sizeLine by decide),λtb c5=>?_⟩;have s7:=Ax c5 (.tup [.int (bt w k:Nat)]);refine⟨ao,tb,_,_,U,U,s7.tup (S6.tup a6),Ah.of Ao,by simp,?_,λd H8 S8 a5=>?_⟩
    ·rw[BJ];exact Cv (show o.length+1<=7 by omega) (by decide)
    have J:=S6.trans (s7.trans S8);refine⟨_,U,_,U,_,U,a,dx,s,r,p,qs,c,w,k,U,J _ _ a2,B2.same J,c1,c3,D,wc,J _ _ p2,λH9 a' j T s' A na nl S9 b3 B9 Z=>?_⟩;refine⟨(show 2<=sizeLine by decide),λt' b4=>?_⟩;have sA:=Ax b4 (.tup [.ref d,.ref a']);have L:=S9.trans sA;have f8:=(s7.trans S8) _ _ f6;have fA:=L _ _ f8;have tA:upd H9 t' (.tup [.ref d,.ref a']) t'=some (.tup [.ref d,.ref a']):=Ao;generalize upd H9 t' (.tup [.ref d,.ref a'])=HA at sA L fA tA ⊢;have B:=(s7.trans S8).trans L;refine⟨fl,_,_,U,U,fA,(show 0<sizeLine by decide),?_⟩;have b0:T≠fl:=λz=>by rw[z,f8]at nl;cases nl
    have M:∀b u,(∀xs,u≠.lst xs)->HA b=some u->upd HA fl (.lst [.ref t']) b=some u:=λb u hu hb=>by rw[CK (Gg hb fA (by intro z;exact hu _ z))];exact hb
    have a3:Same H2 (upd HA fl (.lst [.ref t'])):=Et (S6.trans B) a4;have WB:Way K C (upd HA fl (.lst [.ref t'])) fl t' d a' j s' T A (o++[bt w k]) (st w) c:=by
     refine⟨Ao,M _ _ (by intro xs z;cases z) tA,?_,M _ _ (by intro xs z;cases z) (sA _ _ b3),Wz (B9.same sA) fA b0⟩;have:Ah K HA d (oV (o++[bt w k])):=by
      rw[show oV (o++[bt w k])=oV o++[.int (bt w k:Nat)] by simp[oV]];exact L.tup a5
     rcases this with (q | ⟨u,q⟩) | q
     ·exact .inl (.inl (M _ _ (by intro xs z;cases z) q))
     ·exact .inl (.inr ⟨u,M _ _ (by intro xs z;cases z) q⟩)
     ·exact .inr q
    refine⟨a3,M _ _ (by intro xs z;cases z) (B _ _ a1),M _ _ (by intro xs z;cases z) (B _ _ O),M _ _ (by intro xs z;cases z) (B _ _ Y),M _ _ (by intro xs z;cases z) (B _ _ R),⟨_,U⟩,λz=>absurd z (by omega),λ_=>⟨?_,_,Ao⟩⟩;exact b6 _ a3 t' d a' j s' T A (J.free na) WB (M _ _ (by intro xs z;cases z) (sA _ _ Z))
   ·obtain⟨ex,ey,ez⟩:=X8i wc (X3y c3 D wc i2 e HB) SH;rw[ex,ey,ez];refine Bc ?_;exact⟨S6,a1,O,Y,R,⟨_,U⟩,λz=>f6 (by omega),λz=>q6 (by omega)⟩
  ·obtain⟨S6,_,_,_,_,⟨v7,rfl⟩,_,q6⟩:=e;refine⟨S6 _ _ a0,(λz=>by cases z),λ_=>⟨_,_,_,_,U,(q6 (VF w k)).1⟩⟩
 ·obtain⟨_,_,q⟩:=e;obtain⟨v4,v5,v6,v7,rfl,q2⟩:=q Vi;exact⟨_,U,q2⟩
end
end CP
namespace Dc
open PySem.Builtin.Str
theorem pq(a b c:Str):a++b++c=a++(b++c):=by
 show (⟨a.cps++b.cps++c.cps⟩:Str)=⟨a.cps++(b.cps++c.cps)⟩;rw[Array.append_assoc]
theorem X4i(a b:Str):(a++b).length=a.length+b.length:=Str.length_append a b
end Dc
namespace L2
section
variable {X:Cx}
theorem _z:Nz X "str.zfill" (λx xs H Q=>∃z i,x=.str z/\xs=[.int i]/\PadOk i=true/\Q (.str (Txt.zfill z i)) H):=by
 intro pins s σ H x xs v us Q I a b h;obtain⟨z,i,rfl,rfl,hp,q⟩:=h;obtain⟨t,rfl⟩:=a;obtain⟨u,rfl,t',rfl⟩:=vals1 b;exact SC.zfill hp λt' k=>⟨.str (Txt.zfill z i),H,I.tok _,⟨_,U⟩,q⟩
theorem uL:∀{texts:W0}{its:U5},Vals (texts.map V.str) its->∃l:List (Str×Tok),its=strValues l/\l.map (·.1)=texts
 | [],_,.nil=>⟨[],rfl,rfl⟩
 | x::r,_,.cons h hs=>by
  obtain⟨t,rfl⟩:=h;obtain⟨l,rfl,e⟩:=uL hs;exact⟨(x,t)::l,U,by rw[Ls,e]⟩
theorem QV:Nz X "str.join" (λx xs H Q=>∃z p texts,x=.str z/\xs=[.ref p]/\Af X.K H p (texts.map V.str)/\JoinOk z texts=true/\Q (.str (Txt.join z texts)) H):=by
 intro pins s σ H x xs v us Q I a c h;obtain⟨z,p,texts,rfl,rfl,d,b,q⟩:=h;obtain⟨t,rfl⟩:=a;obtain⟨u,rfl,f⟩:=vals1 c;cases f;obtain⟨its,g,pl,_⟩:=I.list d;obtain⟨l,rfl,e⟩:=uL g;exact SC.join pl.isList e b λt' k=>⟨.str (Txt.join z texts),H,I.tok _,⟨_,U⟩,q⟩
end
end L2
namespace L2
section
variable {X:Cx}
def X5:V->Option Int->Option Int->Hp->VK->Prop:=λx lo hi H Q=>∃z,x=.str z/\z.length<=sizeLine/\Q (.str (Txt.slice z lo hi)) H
theorem X5m:VJ X X5:=by
 intro pins s σ H x v b c lo hi n Q I d f pl j h;obtain⟨z,rfl,g,q⟩:=h;obtain⟨t,rfl⟩:=d;obtain⟨o,e,m,a⟩:=f;refine⟨"str",_,F.slot_str_getitem.lookup,OJ _ _ _,?_⟩;obtain⟨l,rfl,rfl⟩:∃l:Option (Int×Tok),b=partValue l/\lo=l.map (·.1):=by
  cases pl with
  | none=>exact⟨none,rfl,rfl⟩
  | int i t=>exact⟨some (i,t),rfl,rfl⟩
 obtain⟨u,rfl,rfl⟩:∃u:Option (Int×Tok),c=partValue u/\hi=u.map (·.1):=by
  cases j with
  | none=>exact⟨none,rfl,rfl⟩
  | int i t=>exact⟨some (i,t),rfl,rfl⟩
 exact wpAny_getItem_str_slice (l:=l) (u:=u) (st:=none) ⟨o,e,m,a⟩ rfl
  (post_val_or_str ⟨Cv (Txt.slice_le z _ _) g,λt' k=>⟨.str (Txt.slice z (l.map (·.1)) (u.map (·.1))),H,I.tok _,⟨_,U⟩,q⟩⟩)
theorem X3o:Nz X "str.find" (λx xs H Q=>∃z y,x=.str z/\xs=[.str y]/\Q (.int (Txt.find z y)) H):=by
 intro pins s σ H x xs v us Q I a b h;obtain⟨z,y,rfl,rfl,q⟩:=h;obtain⟨t,rfl⟩:=a;obtain⟨u,rfl,t',rfl⟩:=vals1 b;exact SC.find ⟨.int (Txt.find z y),H,I.tok _,⟨_,U⟩,q⟩
end
end L2
namespace L2
open PySem.Builtin.Str
section
variable {X:Cx}
theorem uO:∀l:List (Str×Tok),Vals ((l.map (·.1)).map V.str) (strValues l)
 | []=>.nil
 | p::r=>.cons ⟨p.2,rfl⟩ (uO r)
theorem uX:Nz X "str.split" (λx xs H Q=>∃z y,x=.str z/\xs=[.str y]/\(y.length == 0)=false/\z.length+2<=sizeLine/\∀l,H l=none->Q (.ref l) (upd H l (.lst ((Txt.split z y).map V.str)))):=by
 intro pins s σ H x xs v us Q I g i h;obtain⟨z,y,rfl,rfl,d,j,q⟩:=h;obtain⟨t,rfl⟩:=g;obtain⟨u,rfl,t',rfl⟩:=vals1 i;have c:(partsBetween z (occurrences z y 0 z.length (z.length+1)) y.length).length<=sizeLine:=by
  have:=StrLaws.occ_length_le z y 0 z.length (z.length+1);rw[length_partsBetween];omega
 have f:(Txt.split z y).length<=sizeLine:=by
  unfold Txt.split;split
  ·exact Cv (show 1<=2 by decide) (by omega)
  ·split
   ·exact Cv (show 1<=2 by decide) (by omega)
   ·exact c
 have a:∀(l:List (Str×Tok)) (k:Nat),l.map (·.1)=Txt.split z y->EP X pins σ Q (.ref s.heap.objs.size) {s with heap:=s.heap.push { cls:=.type "list",data:=.seq (strValues l).toArray},toks:=k}:=λl k e=>by
  have b:=uO l;rw[e]at b;exact⟨.ref s.heap.objs.size,_,I.lnew (t':=k) b (by rw[BJ];exact f),U,q _ I.fresh⟩
 cases c1:(decide (z.length<y.length) || decide (strKind z<strKind y)) with
 | true=>exact Ra F.slot_str_split (OJ _ _ _) F.entry_str_split (F.args_str_split_2 _ _) (meets_str_split_cannot_occur z y t t' c1) (a [(z,t)] s.toks (if_pos c1).symm)
 | false =>
  cases c2:(occurrences z y 0 z.length (z.length+1)).isEmpty with
  | true=>exact Ra F.slot_str_split (OJ _ _ _) F.entry_str_split (F.args_str_split_2 _ _) (meets_str_split_not_found z y t t' c1 d c2) (a [(z,t)] s.toks ((if_neg (Yr c1)).trans (if_pos c2)).symm)
  | false =>
   refine Ra F.slot_str_split (OJ _ _ _) F.entry_str_split (F.args_str_split_2 _ _) (meets_str_split_sep z y t t' c1 d c2 (by omega) c) ?_;show EP X pins σ Q (.ref s.heap.objs.size) {s with toks:=_,heap:=s.heap.push { cls:=.type "list",data:=.seq (strsFrom s.toks (partsBetween z (occurrences z y 0 z.length (z.length+1)) y.length)).toArray}};rw[strsFrom_eq];exact a (numbered s.toks _) _ ((numbered_texts _ _).trans ((if_neg (Yr c1)).trans (if_neg (Yr c2))).symm)
theorem zO:CJ X (.type "str") (λxs H Q=>(∃z,xs=[.str z]/\Q (.str z) H)\/∃i,xs=[.int i]/\i.natAbs.log2<1920/\Q (.str (toString i)) H):=by
 intro pins s σ H xs us Q I r h;rcases h with ⟨z,rfl,q⟩ | h
 ·obtain⟨u,rfl,t,rfl⟩:=vals1 r;exact PySem.P.str_of_str ⟨.str z,H,I,⟨_,U⟩,q⟩
 ·exact PN pins s σ H xs us Q I r h
theorem qm:CJ X (.type "int") (λxs H Q=>∃z n,xs=[.str z]/\PySem.intText? z=some n/\z.length<=640/\Q (.int n) H):=by
 intro pins s σ H xs us Q I r h;obtain⟨z,n,rfl,b,a,q⟩:=h;obtain⟨u,rfl,t,rfl⟩:=vals1 r;exact PySem.W.KIN.call_text b a ⟨.int n,H,I.tok _,⟨_,U⟩,q⟩
theorem ud(z:Array Nat):∀(k:Nat) (a:Array Nat),((List.replicate k z).foldl (·++·) a).size=a.size+k*z.size
 | 0,a=>by simp
 | k+1,a=>by
  rw[Vy,List.foldl_cons,ud z k,Array.size_append,Nat.succ_mul];omega
end
theorem _R{K:U0}{l:Y0}{zs:W0}{tc:TT}{te:TE}{fr:St}{H1:Hp}{acc:Y0}{Q:VK}(p:Str->Bool)(hacc:H1 acc=none)(hl:Af K H1 l (zs.map V.str))(hn:zs.length<=sizeLine)
  (hs:∀z H (N:Bool->Hp->Prop),z∈zs->Same H1 H->N (p z) H->tc (some (.str z)::fr) H N)
  (ht:∀z H (N:V->Hp->Prop),z∈zs->p z=true->Same H1 H->N (.str z) H->te (some (.str z)::fr) H N)
  (hd:∀H2,Same H1 H2->H2 acc=some (.lst ((zs.filter p).map V.str))->Q (.ref acc) H2):K6 (J9 K l) (Bf 0) tc te (none::fr) H1 acc Q:=by
 refine⟨λi m ys g H2=>m=zs.length-i/\i<=zs.length/\(∃v,g=v::fr)/\Same H1 H2/\H2 acc=some (.lst ys)/\ys=((zs.take i).filter p).map V.str,⟨zs.length,by simp,Dz _,⟨_,U⟩,Ax hacc _,Ao,by simp⟩,?_⟩;rintro i m ys g H2 ⟨rfl,hi,⟨v,rfl⟩,a,d,c⟩;by_cases hlt:i<zs.length
 ·have f:zs[i]?=some zs[i]:=by simp[hlt]
  have h:(zs.map V.str)[i]?=some (.str zs[i]):=by rw[Dw,f];rfl
  have o:ys.length<=i:=by
   rw[c,BJ];exact Cv (Rx _ _) (by rw[Oe];omega)
  have b:zs[i]∈zs:=Vt hlt;refine .inr ⟨⟨_,_,a.seq hl,h⟩,λu n k=>?_⟩;obtain⟨rfl,j⟩:=k;have:=j _ (a.seq hl);rw[h]at this;cases this;refine hs zs[i] _ _ b a ⟨λhp=>ht zs[i] _ _ b hp a ⟨d,by omega,zs.length-(i+1),by omega,U,hlt,⟨_,U⟩,Et a hacc,Ao,?_⟩,λhp=>⟨zs.length-(i+1),by omega,U,hlt,⟨_,U⟩,a,d,?_⟩⟩
  ·rw[Km,f,QB,Rr,Dn,c];simp[hp]
  ·rw[Km,f,QB,Rr,Dn,c];simp[hp]
 ·have e:i=zs.length:=by omega
  subst e;exact .inl ⟨⟨_,a.seq hl,by rw[BJ];exact Bj _⟩,hd H2 a (by rw[d,c,Lw])⟩
end L2
namespace Mw
open PySem.Builtin.Str L2
noncomputable def ne0 (w:Str):Bool:=!decide (V.str w=V.str "")
noncomputable def wds (z:Str):List Str:=(Txt.split z " ").filter ne0
def blank (z:Str):Prop:=∀c∈z.cps.toList,c=32
theorem X8f:(Str.ofString " ")=⟨#[32]⟩:=by decide
variable{w:Str}
theorem X3l(h:ne0 w=false):w.cps.toList=[]:=by
 unfold ne0 at h;have:V.str w=V.str "":=by simpa using h
 injection this with e;rw[e];decide
theorem X6m(h:w.cps.toList=[]):ne0 w=false:=by
 have e:w="":=Str.ext' (Vs.mp (by rw[h];decide));subst e;decide
theorem lG(y:Str):∀{ps:W0}{p:Str},p∈ps->∀c∈p.cps.toList,c∈(Str.join y ps).cps.toList
 | [q],p,h,c,hc=>by
  rw[Ko.mp h]at hc;exact hc
 | q::q'::r,p,h,c,hc=>by
  show c∈(q++y++Str.join y (q'::r)).cps.toList;rw[Str.cps_append,Rv,Str.cps_append,Rv];rcases Cy.mp h with rfl | h
  ·simp[hc]
  ·exact Hy _ (lG y h c hc)
theorem qR:∀{ps:W0},(∀p∈ps,p.cps.toList=[])->blank (Str.join ⟨#[32]⟩ ps)
 | [],_=>λc a=>by cases a
 | [q],h=>λc a=>by
  have:=h q (by simp);have a:c∈q.cps.toList:=a;rw[this]at a;cases a
 | q::q'::r,h=>λc a=>by
  have a:c∈(q++⟨#[32]⟩++Str.join ⟨#[32]⟩ (q'::r)).cps.toList:=a;rw[Str.cps_append,Rv,Str.cps_append,Rv]at a;rcases K9.mp a with a | a
  ·rcases K9.mp a with a | a
   ·rw[h q (by simp)]at a;cases a
   ·simpa using a
  ·exact qR (λp hp=>h p (Hx _ hp)) c a
theorem Y2p(z:Str):wds z=[]↔blank z:=by
 unfold wds;rw[X8f];constructor
 ·intro h;have e:=StrLaws.join_split z ⟨#[32]⟩;rw[<-e];refine qR λp hp=>X3l ?_;cases hn:ne0 p with
  | false=>rfl
  | true =>
   have:p∈(Txt.split z ⟨#[32]⟩).filter ne0:=Vp.mpr ⟨hp,hn⟩;rw[h]at this;cases this
 ·intro h;rw[oX];intro p hp;have e:=StrLaws.join_split z ⟨#[32]⟩;have f:=StrLaws.split_free z 32 p hp;have:p.cps.toList=[]:=by
   cases hl:p.cps.toList with
   | nil=>rfl
   | cons c r =>
    exfalso;have m:c∈p.cps.toList:=by rw[hl];simp
    have a:=lG ⟨#[32]⟩ hp c m;rw[e]at a;rw[h c a]at m;exact f m
  rw[X6m this];simp
noncomputable def MN (w:Str):Option Nat:=match w.cps.toList with
 | [c]=>if 48<=c/\c<=57 then some (c-48) else none
 | _=>none
noncomputable def je (x w:Str):Bool:=!(occurrences x w 0 x.length 1).isEmpty
theorem wj(h:w.length=1):∃c,w=⟨#[c]⟩:=by
 have l:w.cps.toList.length=1:=by simpa [Str.length] using h
 match e:w.cps.toList,l with
 | [c],_=>exact⟨c,Str.ext' (Vs.mp (by rw[e]))⟩
theorem zu(h:w.length≠1):MN w=none:=by
 unfold MN;split
 ·rename_i c e;exact absurd (by have:=congrArg List.length e;simpa [Str.length] using this) h
 ·rfl
theorem X7n(h:w.length=1):je "0123456789" w=(MN w).isSome:=by
 obtain⟨c,rfl⟩:=wj h;unfold je;rw[StrLaws.found_one];have e:(Str.ofString "0123456789").cps.toList=[48,49,50,51,52,53,54,55,56,57]:=by decide
 rw[e];show _=(if 48<=c/\c<=57 then some (c-48) else none).isSome;by_cases q:48<=c/\c<=57
 ·rw[if_pos q];simp;omega
 ·rw[if_neg q];simp;omega
theorem rY{n:Nat}(h:MN w=some n):n<=9/\w.length=1/\PySem.intText? w=some (n:Int):=by
 by_cases l:w.length=1
 ·obtain⟨c,rfl⟩:=wj l;have h:(if 48<=c/\c<=57 then some (c-48) else none)=some n:=h;split at h
  ·rename_i q;injection h with h;have:c=48\/c=49\/c=50\/c=51\/c=52\/c=53\/c=54\/c=55\/c=56\/c=57:=by omega
   rcases this with rfl | rfl | rfl | rfl | rfl | rfl | rfl | rfl | rfl | rfl<;>(subst h;exact⟨by decide,U,by decide +kernel⟩)
  ·cases h
 ·rw[zu l]at h;cases h
end Mw
namespace Xg
open PySem.Builtin.Str L2 Mw
noncomputable abbrev cl (z:Str):List Nat:=z.cps.toList
theorem Ub{a b:Str}(h:cl a=cl b):a=b:=Str.ext' (Vs.mp h)
theorem W_(a b:Str):cl (a++b)=cl a++cl b:=by
 show (a++b).cps.toList=_;rw[Str.cps_append,Rv]
noncomputable def jn (c:Nat):List (List Nat)->List Nat
 | []=>[]
 | [p]=>p
 | p::q::r=>p++c::jn c (q::r)
theorem jz(c:Nat):∀ps:List Str,cl (Str.join ⟨#[c]⟩ ps)=jn c (ps.map cl)
 | []=>rfl
 | [p]=>rfl
 | p::q::r=>by
  show cl (p++⟨#[c]⟩++Str.join ⟨#[c]⟩ (q::r))=cl p++c::jn c ((q::r).map cl);rw[W_,W_,jz c (q::r),Yi];rfl
theorem rK{c:Nat}:∀{a b x y:W3},c∉a->c∉b->a++c::x=b++c::y->a=b/\x=y
 | [],[],x,y,_,_,h=>by cases h;exact⟨rfl,rfl⟩
 | [],b::bs,x,y,_,hb,h=>by
  injection h with h1 h2;exact absurd (by rw[h1];simp) hb
 | a::as,[],x,y,ha,_,h=>by
  injection h with h1 h2;exact absurd (by rw[h1];simp) ha
 | a::as,b::bs,x,y,ha,hb,h=>by
  injection h with h1 h2;obtain⟨e,d⟩:=rK (λq=>ha (Hx _ q)) (λq=>hb (Hx _ q)) h2;exact⟨by rw[h1,e],d⟩
theorem wO{c:Nat}:∀{ps qs:List (List Nat)},ps≠[]->qs≠[]->(∀p∈ps,c∉p)->(∀p∈qs,c∉p)->jn c ps=jn c qs->ps=qs
 | [],_,h,_,_,_,_=>absurd rfl h
 | _::_,[],_,h,_,_,_=>absurd rfl h
 | [p],[q],_,_,_,_,h=>by
  have h:p=q:=h;rw[h]
 | [p],q::q2::r,_,_,hp,_,h=>by
  have h:p=q++c::jn c (q2::r):=h;exact absurd (by rw[h];simp) (hp p (by simp))
 | p::p2::r,[q],_,_,_,hq,h=>by
  have h:p++c::jn c (p2::r)=q:=h;exact absurd (by rw[<-h];simp) (hq q (by simp))
 | p::p2::r,q::q2::t,_,_,hp,hq,h=>by
  have h:p++c::jn c (p2::r)=q++c::jn c (q2::t):=h;obtain⟨b,d⟩:=rK (hp p (by simp)) (hq q (by simp)) h;rw[b,wO (by simp) (by simp) (λx a=>hp x (Hx _ a)) (λx a=>hq x (Hx _ a)) d]
theorem Y7e(z y:Str):Txt.split z y≠[]:=by
 unfold Txt.split;split
 ·simp
 ·split
  ·simp
  ·rw[StrLaws.partsBetween_eq];obtain⟨p,r,e⟩:=StrLaws.partsFrom_ne z y.length 0 (occurrences z y 0 z.length (z.length+1));rw[e];simp
theorem Y2g{ps qs:W0}(h:ps.map cl=qs.map cl):ps=qs:=(List.map_inj_right (λa b h=>Ub h)).mp h
theorem Y1v{z:Str}{c:Nat}{ps:W0}(ne:ps≠[])(fr:∀p∈ps,c∉cl p)(e:cl z=jn c (ps.map cl)):Txt.split z ⟨#[c]⟩=ps:=by
 apply Y2g;refine wO (c:=c) ?_ ?_ ?_ ?_ ?_
 ·simpa using Y7e z ⟨#[c]⟩
 ·simpa using ne
 ·intro p hp;obtain⟨q,a,rfl⟩:=Hu.mp hp;exact StrLaws.split_free z c q a
 ·intro p hp;obtain⟨q,a,rfl⟩:=Hu.mp hp;exact fr q a
 ·rw[<-jz,StrLaws.join_split,e]
theorem Y4d{z:Str}{c:Nat}{a b:W3}(ha:c∉a)(e:cl z=a++c::b):Txt.partition z ⟨#[c]⟩=(⟨a.toArray⟩,⟨#[c]⟩,⟨b.toArray⟩):=by
 unfold Txt.partition;rcases StrLaws.occ_head z ⟨#[c]⟩ 1 (Bj 1) with ⟨_,hn⟩ | ⟨i,r,h0,hi,hn⟩
 ·exfalso;refine hn a.length ((StrLaws.subAt_one z c a.length).mpr ?_);show (cl z)[a.length]?=some c;rw[e];simp
 rw[h0];have d:(cl z)[i]?=some c:=(StrLaws.subAt_one z c i).mp hi;have j:i=a.length:=by
  rcases Nat.lt_trichotomy i a.length with h | h | h
  ·rw[e,Y9 h]at d;exact absurd (Il d) ha
  ·exact h
  ·exact absurd ((StrLaws.subAt_one z c a.length).mpr (by show (cl z)[a.length]?=some c;rw[e];simp)) (hn _ h)
 subst j;have k:z.length=a.length+(b.length+1):=by
  have:(cl z).length=z.length:=by simp[Str.length]
  rw[<-this,e];simp
 have f:strSub z 0 a.length=⟨a.toArray⟩:=by
  apply Ub;show (strSub z 0 a.length).cps.toList=_;rw[StrLaws.strSub_toList];show List.take (a.length-0) (List.drop 0 (cl z))=_;rw[e];simp
 have g:strSub z (a.length+(⟨#[c]⟩:Str).length) z.length=⟨b.toArray⟩:=by
  apply Ub;show (strSub z (a.length+1) z.length).cps.toList=_;rw[StrLaws.strSub_toList];show List.take (z.length-(a.length+1)) (List.drop (a.length+1) (cl z))=_;rw[e,k];have:a.length+(b.length+1)-(a.length+1)=b.length:=by omega
  rw[this];have:List.drop (a.length+1) (a++c::b)=b:=by
   rw[show a++c::b=(a++[c])++b by simp];rw[List.drop_left' (by simp)]
  rw[this];simp
 show (strSub z 0 a.length,_,strSub z _ _)=_;rw[f,g]
end Xg
namespace L2
open PySem.Builtin.Str
section
variable {X:Cx}
theorem X3n:Nz X "str.partition" (λx xs H Q=>∃z y,x=.str z/\xs=[.str y]/\(y.length == 0)=false/\z.length<=sizeLine/\∀l,H l=none->Q (.ref l) (upd H l (.tup [.str (Txt.partition z y).1,.str (Txt.partition z y).2.1,.str (Txt.partition z y).2.2]))):=by
 intro pins s σ H x xs v us Q I g j h;obtain⟨z,y,rfl,rfl,n,m,q⟩:=h;obtain⟨t,rfl⟩:=g;obtain⟨u,rfl,t',rfl⟩:=vals1 j;have f:∀(a b c:Tok) (k:Nat),EP X pins σ Q (.ref s.heap.objs.size) {s with heap:=s.heap.push { cls:=.type "tuple",data:=.seq [.str (Txt.partition z y).1 a,.str (Txt.partition z y).2.1 b,.str (Txt.partition z y).2.2 c].toArray},toks:=k}:=λa b c k =>
  ⟨.ref s.heap.objs.size,upd H s.heap.objs.size (.tup [.str (Txt.partition z y).1,.str (Txt.partition z y).2.1,.str (Txt.partition z y).2.2]),I.laid (t':=k) (λb u e=>Df _ e) (Bj _) ⟨(show 3<=sizeLine by decide),[.str (Txt.partition z y).1 a,.str (Txt.partition z y).2.1 b,.str (Txt.partition z y).2.2 c],.cons ⟨_,U⟩ (.cons ⟨_,U⟩ (.cons ⟨_,U⟩ .nil)),⟨_,Ej _ rfl,U,_,U⟩⟩,U,q _ (I.hok.fresh (Bj _))⟩
 refine Ra F.slot_str_partition (OJ _ _ _) F.entry_str_partition (F.args_str_partition_2 _ _) (meets_str_partition z y t t' n m) ?_;have d:=f;unfold Txt.partition at d;revert d;cases occurrences z y 0 z.length 1 with
 | nil=>intro d;exact d _ _ _ _
 | cons i r=>intro d;exact d _ _ _ _
end
end L2
namespace PySem
open PySem.Sem (wp)
noncomputable abbrev Nf (t:Tok):List (Str×Value):=[(Str.ofString "start",.int 1 t)]
theorem xq(a:W2)(t:Tok):checkTypeCall "enumerate" ⟨[a],Nf t⟩=pure ():=by kernel_rfl
theorem yJ(a:W2)(t:Tok):checkBuiltinCall "enumerate.__new__" ⟨[.type "enumerate",a],Nf t⟩=pure ():=by kernel_rfl
theorem yI(a b:W2)(t:Tok):argsOk "object.__init__" ⟨[a,b],Nf t⟩:=by
 unfold argsOk;rw[signature?_of (id:="object.__init__") (n:=['_','_','t','i','n','i','_','_']) (o:=['t','c','e','j','b','o']) (by kernel_rfl) F.owner_object];kernel_rfl
theorem Oj(l:Y0)(items:U9)(n:Nat)(dct:W5)(sl:W4)(t:Tok):
  Meets (Builtin.«enumerate.__new__» ⟨[.type "enumerate",.ref l],Nf t⟩) (λ_ R s=>s.heap.get? l=some { cls:=.type "list",dict:=dct,data:=.seq items n,slots:=sl} /\
   R (.ok (.ret (.ref (s.heap.push { cls:=.type "list_iterator",data:=.fields #[.ref l,.int 0 0]}).objs.size)))
    {s with heap:=(s.heap.push { cls:=.type "list_iterator",data:=.fields #[.ref l,.int 0 0]}).push { cls:=.type "enumerate",data:=.fields #[.none,.bool false,.ref s.heap.objs.size,rawInt 1,.none,.none]}}):=
 .of_wp λprog w A R s h=>by
  obtain⟨hp,g,d,tk,os⟩:=s;obtain⟨a,h⟩:=h;have e:=sub_enumerate;have b:Heap.IsList (Shared.heap ⟨hp,g,d,tk,os⟩) l items:=⟨_,a,rfl,n,rfl⟩;wp_walk using Vr a;refine wpAny_stack_any λst=>CW ?_;split
  ·rename_i c _ _ _ _ _;cases (c == Value.type "enumerate")
   ·wp_walk using Vr a,Og b;exact⟨_,U,h⟩
   ·wp_walk using Vr a,Og b;exact⟨_,U,h⟩
  ·wp_walk using Vr a,Og b;exact⟨_,U,h⟩
section
variable {prog:U8}{w:W1}{A:W7}{E:U2}{s:U7}
theorem Tp{self a:W2}{t:Tok}:Meets (Builtin.«object.__init__» ⟨[self,a],Nf t⟩) (λ_ R s=>s.TypeIs self "enumerate"/\R (.ok (.ret .none)) s):=by
 have e:=F.called_enumerate.init.lookup;have g:=F.called_enumerate.made;have b:(some "enumerate.__new__" != some "object.__new__")=true:=by decide
 refine Meets.of_wp λprog w A R s d=>?_;obtain⟨f,c⟩:=d;repeat (any_goals (first | assumption | wp_step))
 exact⟨_,U,c⟩
theorem zL{l:Y0}{items:U9}{t:Tok}{Q:U2}(hL:s.heap.IsList l items)
  (h:∀h',IsEnum h' (s.heap.objs.size+1) s.heap.objs.size 1 .none->h'.IsListIter s.heap.objs.size l 0->(∀b o,s.heap.get? b=some o->h'.get? b=some o)->Q (.ref (s.heap.objs.size+1)) {s with heap:=h'}):
  wpAny (model prog w) A (call (.type "enumerate") [.ref l] (Nf t)) Q E s:=by
 obtain⟨⟨c,i,H,N⟩,L,v,n,j⟩:=hL
 replace v:c=.type "list":=v
 replace j:H=.seq items n:=j
 subst v j;have ft:=F.called_enumerate;obtain⟨c,tl,B⟩:=ft.mro;have k:=ft.made;have y:=ft.sub;have G:=xq (.ref l) t;refine Ve (codeAny_of_tree ?_);show wpAny _ _ (callAny (.type "enumerate") _) _ _ _;refine CW ⟨Code.quiet_builtin _ (by decide +kernel),codeAny_builtin F.entry_type_call ?_⟩;rw[Around.under_plain (oU "enumerate" [.ref l] (Nf t)) (units_type_call_type "enumerate" [.ref l] (Nf t))];have h1:=ft.notType;have h2:=ft.canCreate;repeat (any_goals (first | assumption | wp_step))
 obtain⟨e,C⟩:∃e:Result->Shared->Prop,e=(λr g=>r=.ok (.ret (.ref (s.heap.objs.size+1)))/\g={s with heap:=(s.heap.push { cls:=.type "list_iterator",data:=.fields #[.ref l,.int 0 0]}).push { cls:=.type "enumerate",data:=.fields #[.none,.bool false,.ref s.heap.objs.size,rawInt 1,.none,.none]}}):=⟨_,U⟩;have M:=Oj l items n i N t prog w A.in1 e s ⟨L,by rw[C];exact⟨by rw[Ij],U⟩⟩;refine M9 (Ys (R:=e) ft.plain F.entry_enumerate_new (wpAny_of_eq (yJ _ t) ?_)) λr g J=>?_
 ·exact M
 subst C;obtain⟨rfl,rfl⟩:=J;have u:IsEnum ((s.heap.push { cls:=.type "list_iterator",data:=.fields #[.ref l,.int 0 0]}).push { cls:=.type "enumerate",data:=.fields #[.none,.bool false,.ref s.heap.objs.size,rawInt 1,.none,.none]}) (s.heap.objs.size+1) s.heap.objs.size 1 .none:=by
  have:=Ej (s.heap.push { cls:=.type "list_iterator",data:=.fields #[.ref l,.int 0 0]}) (o:={ cls:=.type "enumerate",data:=.fields #[.none,.bool false,.ref s.heap.objs.size,rawInt 1,.none,.none]}) rfl;rwa [Ij]at this
 have hi:((s.heap.push { cls:=.type "list_iterator",data:=.fields #[.ref l,.int 0 0]}).push { cls:=.type "enumerate",data:=.fields #[.none,.bool false,.ref s.heap.objs.size,rawInt 1,.none,.none]}).IsListIter s.heap.objs.size l 0:=⟨_,Df _ (Ej _ rfl),U,U⟩;have x:∀b o,s.heap.get? b=some o->((s.heap.push { cls:=.type "list_iterator",data:=.fields #[.ref l,.int 0 0]}).push { cls:=.type "enumerate",data:=.fields #[.none,.bool false,.ref s.heap.objs.size,rawInt 1,.none,.none]}).get? b=some o:=λb o q=>Df _ (Df _ q);have m:=h _ u hi x;generalize (s.heap.push { cls:=.type "list_iterator",data:=.fields #[.ref l,.int 0 0]}).push { cls:=.type "enumerate",data:=.fields #[.none,.bool false,.ref s.heap.objs.size,rawInt 1,.none,.none]}=h' at u hi x m ⊢;have z:Shared.TypeIs {s with heap:=h'} (.ref (s.heap.objs.size+1)) "enumerate":=⟨_,u,U⟩;have I:=ft.init.lookup;have K:=ft.init.bind (.ref (s.heap.objs.size+1));clear M h;repeat (any_goals (first | assumption | wp_step))
 obtain⟨f,d⟩:∃f:Result->Shared->Prop,f=(λr g=>r=.ok (.ret .none)/\g={s with heap:=h'}):=⟨_,U⟩;have D:=Tp (self:=.ref (s.heap.objs.size+1)) (a:=.ref l) (t:=t) prog w A.in1 f {s with heap:=h'} ⟨z,by rw[d];exact⟨U,U⟩⟩;refine M9 (Ys (R:=f) ft.init.plain F.entry_object_init (ft.init.check _ _ _ _ _ _ _ _ z (yI _ _ t) ?_)) λP O p=>?_
 ·exact D
 subst d;obtain⟨rfl,rfl⟩:=p;repeat (any_goals (first | assumption | wp_step))
end
end PySem
namespace L2
theorem Ow{prog:U8}{w:W1}{A:W7}(hh:A.handled=none)(it l:Y0)(hne:l≠it)(items:U9):
  Draws prog w A it [it,l] (items.size+1) (λi v=>items[i-1]?=some v) (λi h=>1<=i/\h.IsListIter it l (i-1)/\h.IsList l items) where
 live:=λ_ _ st=>let ⟨o,ho,_⟩:=st.2.1;⟨o,ho⟩
 frame:=λ_ _ _ st d=>⟨st.1,st.2.1.at λo e=>d it (by simp) o e,st.2.2.at λo e=>d l (by simp) o e⟩
 item:=λi s Q E hi st f=>by
  obtain⟨h1,st⟩:=st;have a:i-1<items.size:=by omega
  refine pA st.1 st.2 (x:=items[i-1]) (by simp[a]) λh' c b=>?_;exact f _ h' s.toks (by simp[a]) ⟨Nat.le_add_left _ _,by rw[show i+1-1=i-1+1 by omega];exact c,st.2.extBut b.extBut hne⟩ b
 done:=λs Q E st g=>Yx hh st.2.1 st.2.2 (by simp) g
def K7 (K:U0)(l:Y0):It :=
 ⟨λi H=>∃xs x,Af K H l xs/\xs[i]?=some x,
 λi H v H'=>∃T x,v=.ref T/\H T=none/\H'=upd H T (.tup [.int ((i+1:Nat):Int),x])/\∀xs,Af K H l xs->xs[i]?=some x,
 λi H=>∃xs,Af K H l xs/\xs.length<=i⟩
theorem Y1u{P:U8}{w:W1}{K:U0}{es:List Expr}{kk:Nat}{tp:Pos}{e it l:Y0}(ne:e≠it)(nl:l≠e)(nli:l≠it):
  Turn P w K (.Tuple es kk tp) (K7 K l) [e,it] e (λi h=>(∃a,IsEnum h e it ((i+1:Nat):Int) a)/\h.IsListIter it l i) where
 mem:=by simp
 obj:=λi h st b hb=>by
  obtain⟨⟨a,c⟩,o,d,_,V⟩:=st;simp only[Cy,Ei,Eh]at hb;rcases hb with rfl | rfl
  ·exact⟨_,c,λv q=>by have T:Data.fields _=Data.cell v:=q;cases T⟩
  ·exact⟨o,d,λv z=>by rw[V]at z;cases z⟩
 keep:=λi h h' st k=>by
  obtain⟨⟨a,c⟩,d⟩:=st;exact⟨⟨a,k e (by simp) _ c⟩,d.at λo q=>k it (by simp) o q⟩
 item:=by
  intro X C y t L i pins s σ H E I g st u;subst C y t;obtain⟨xs,x,n,R⟩:=u;obtain⟨⟨a,c⟩,d⟩:=st;obtain⟨its,M,p,hz⟩:=I.list n;obtain⟨vx,f,rx⟩:=M.get R;have B:X.A.in1.handled=none:=I.ok.hd L;have F:i<its.length:=(Fb.mp f).1;refine pC (i:=i+1) (Ow B it l nli its.toArray) c ⟨Nat.le_add_left _ _,d,p.isList⟩ (by simpa using F) ne (by simpa using ⟨ne,nl.symm⟩) λv h' tk m W G Y b4 S=>?_;have ev:v=vx:=by
   have m:its.toArray[i+1-1]?=some v:=m;rw[Nat.add_sub_cancel]at m;have:its[i]?=some v:=by simpa using m
   rw[f]at this;exact(Option.some.inj this).symm
  subst ev;refine⟨_,U,ZC W λh2 c1 r=>?_⟩;have zT:s.heap.objs.size≠e:=Lr (Bv c);have k2:∀b o,b∉[e,it]->s.heap.get? b=some o->h2.get? b=some o:=λb o hb q=>by
   simp only[Cy,Ei,Eh,not_or]at hb;exact r.extBut b o hb.1 (S b o hb.1 hb.2 q)
  have hT:IsTup h2 s.heap.objs.size ([.int ((i+1:Nat):Int) tk,v]:U5).toArray:=⟨_,r.extBut _ _ zT Y,U,_,U⟩;refine⟨.ref s.heap.objs.size,upd H s.heap.objs.size (.tup [.int ((i+1:Nat):Int),x]),I.turnedT (t':=tk+1) k2 g (Bj _) (.cons ⟨_,U⟩ (.cons rx .nil)) (by show 2<=sizeLine;decide) hT,U,⟨_,x,U,I.hok.fresh (Bj _),U,λa0 h1=>?_⟩,⟨⟨v,?_⟩,?_⟩,λb hb=>?_⟩
  ·rw[I.list_inj h1 n];exact R
  ·exact_mod_cast c1
  ·have G:h'.IsListIter it l (i+1):=G.2.1;exact G.at λo q=>r.extBut _ _ ne.symm q
  ·have J:b<s.heap.objs.size:=by
    simp only[Cy,Ei,Eh]at hb;rcases hb with rfl | rfl
    ·exact Bv c
    ·obtain⟨o,q,_⟩:=d;exact Bv q
   rw[CK (Cw J)];exact(g b hb).1
 done:=by
  intro X C y t L i pins s σ H E I g st u;subst C y t;obtain⟨xs,n,N⟩:=u;obtain⟨⟨a,c⟩,d⟩:=st;obtain⟨its,M,p,hz⟩:=I.list n;have e1:=M.length;have B:X.A.in1.handled=none:=I.ok.hd L;have D:Draws X.prog X.w X.A.in1 it [it,l] i (λ_ _=>False) (λj h=>j=i/\h.IsListIter it l i/\h.IsList l its.toArray):=
   {live:=λ_ _ st=>(let ⟨o,ho,_⟩:=st.2.1;⟨o,ho⟩),
    frame:=λ_ _ _ st O=>⟨st.1,st.2.1.at λo e=>O it (by simp) o e,st.2.2.at λo e=>O l (by simp) o e⟩,
    item:=λj s Q E hi st hQ=>absurd st.1 (Cw hi),
    done:=λs Q E st hE=>Yx B st.2.1 st.2.2 (by simp;omega) hE}
  refine pB D c ⟨rfl,d,p.isList⟩ λh' Z=>⟨U,I.turnedL (t':=s.toks) (ch:=[e,it]) (λb o hb q=>?_) g⟩;simp only[Cy,Ei,Eh,not_or]at hb;exact Z b o hb.2 q
 self:=λ_ _ _ _ _ st h=>by
  obtain⟨⟨a,c⟩,_⟩:=st;exact P_ c h
theorem zY{M:Model}{A:W7}{E:U2}{s:U7}{env:Env}{pos:Pos}{T:String}{e:Expr}{rest:List Expr}{kws:List Keyword}{Q:U2}
  (h:wpAny M A (spliced (backTo pos (starEach (e::rest) env))) (λvs b=>wpAny M A (evalAll ((backToKw pos (keywordEach kws env)).map (·.2)))
   (λkvs c=>wpAny M A (call (.type T) vs (((backToKw pos (keywordEach kws env)).filterMap (·.1)).zip kvs)) Q E c) E b) E s)
  (he:backTo pos (starEach (e::rest) env)=(false,eval e env)::backTo pos (starEach rest env):=by rfl)
  (hplain:(backTo pos (starEach (e::rest) env)).any (·.1)=false:=by rfl)
  (hall:(backToKw pos (keywordEach kws env)).all (·.1.isSome)=true:=by rfl)
  (hkw:(backToKw pos (keywordEach kws env)).any (·.1.isNone)=false:=by rfl):
  wpAny M A (callWith pos (.type T) [] (backTo pos (starEach (e::rest) env)) (backToKw pos (keywordEach kws env))) Q E s:=by
 have h1:wpAny M A (evalArgs (.type T) true (backTo pos (starEach (e::rest) env)) (backToKw pos (keywordEach kws env))) (λa b=>wpAny M A (call (.type T) ([]++a.pos) a.kw) Q E b) E s:=by
  rw[he]at h ⊢;exact evalArgs_kwB hall h
 unfold callWith;refine Bm (Vm (Ep h1 (λa b f=>Bm (Pk ?_)) λ_ _ x=>x));simp only[hplain,hkw,YJ];refine Bm (CW ?_);exact Bm (Ep f (λr c d=>Bm (Vm (wpAny_point (CW d)))) λ_ _ x=>x)
section
variable {X:Cx}{es:List Expr}{kk:Nat}{tp:Pos}
def Oq (K:U0)(ta:TA):TI:=λσ H R=>ta σ H λvs H1=>∃l xs,vs=[.ref l]/\Af K H1 l xs/\R (K7 K l) H1
theorem Y7k{a:Expr}{ta:TA}{ck:Nat}{p p2 kp pos:Pos}(hg:Gl X "enumerate")(hm:X.mg "enumerate"=none)(ha:PA X [a] ta)(hs:starEach [a] X.env=(false,eval a X.env)::starEach [] X.env:=by rfl):
  PI X (.Tuple es kk tp) (.Call (.Name "enumerate" p) [a] [⟨some "start",.Constant (.int 1) ck p2,kp⟩] pos) (Oq X.K ta):=by
 intro pins s σ H R I h;refine Ru (Mi I hg hm YM ?_ (by decide) (by decide));refine zY (BW (ha pos pins s σ H _ I h) λus w ⟨vs,H1,k,x,v⟩=>?_) (by rw[hs];rfl) (by rw[hs];rfl) rfl rfl;obtain⟨l,xs,e,h1,q⟩:=v;subst e;refine BW (X1z (Ad (i:=1)) X5u pos pins w σ H1 (λzs H2=>zs=[.int 1]/\H2=H1) k ⟨U,U⟩) λD c ⟨zs,H2,g,n,B,z⟩=>?_;subst B z;obtain⟨u,rfl,C⟩:=vals1 n;obtain⟨t,rfl⟩:=C;cases x with
 | cons r rr =>
  cases rr;cases r;obtain⟨its,F,pl,E⟩:=g.list h1;refine zL pl.isList λh' j y A=>?_;have m:Inv X pins σ H2 {c with heap:=h'}:=g.kept (t':=c.toks) A;have d:l<c.heap.objs.size:=by obtain⟨o,q,_⟩:=pl.isList;exact Bv q
  refine P_ j ⟨_,[c.heap.objs.size+1,c.heap.objs.size],_,_,H2,U,m,Y1u (Yd _) (Cw (Py d)) (Cw d),⟨⟨_,j⟩,y⟩,λb hb=>?_,q⟩;have f:c.heap.objs.size<=b:=by
   simp only[Cy,Ei,Eh]at hb;rcases hb with rfl | rfl
   ·exact Vh _
   ·exact Bj _
  exact g.fpOk f (g.hok.fresh f)
end
theorem Y5y{K:U0}{a:Y0}{xs:List V}{g:TG}{tb:TS}{D:Ends}{σ:St}{H:Hp}(Pv:Nat->St->Hp->Prop)(h0:Pv 0 σ H)(hl:∀i σ H,i<=xs.length->Pv i σ H->Af K H a xs)
  (hs:∀i x σ H T,xs[i]?=some x->Pv i σ H->H T=none->g (.ref T) σ (upd H T (.tup [.int ((i+1:Nat):Int),x])) λb H2=>tb {D with nx:=Pv (i+1),ct:=Pv (i+1),bk:=D.nx} b H2) (hd:∀σ H,Pv xs.length σ H->D.nx σ H):
  ∃W:Nat->Nat->St->Hp->Prop,(∃m,W 0 m σ H)/\∀i m σ H,W i m σ H ->
   ((K7 K a).stop i H/\D.nx σ H)\/((K7 K a).go i H/\∃N:St->Hp->Prop,(∀c H',N c H'->∃m',m'<m/\W (i+1) m' c H')/\∀x H',(K7 K a).yld i H x H'->g x σ H' λb H2=>tb {D with nx:=N,ct:=N,bk:=D.nx} b H2):=by
 refine⟨λi m σ H=>m=xs.length-i/\i<=xs.length/\Pv i σ H,⟨xs.length,by simp,Dz _,h0⟩,?_⟩;rintro i m σ H ⟨rfl,hi,p⟩;have q:=hl i σ H hi p;by_cases hlt:i<xs.length
 ·refine .inr ⟨⟨xs,xs[i],q,by simp[hlt]⟩,Pv (i+1),λc H' f=>⟨xs.length-(i+1),by omega,U,hlt,f⟩,λv H' y=>?_⟩;obtain⟨T,x,rfl,d,rfl,y⟩:=y;exact hs i x σ H T (y xs q) p d
 ·have e:i=xs.length:=by omega
  subst e;exact .inl ⟨⟨xs,q,Bj _⟩,hd σ H p⟩
end L2
set_option maxHeartbeats 4000000
namespace L2
theorem Ky{prog:U8}{w:W1}{A:W7}(hh:A.handled=none)(it:Y0)(z:Str)(t:Tok):
  Draws prog w A it [it] z.cps.size (λi v=>∃c u,z.cps[i]?=some c/\v=.str ⟨#[c]⟩ u) (λi h=>h.IsStrIter it (strIterType z) z t i):=by
 unfold strIterType;split
 ·exact Draws.strAscii hh it z t
 ·exact Draws.strWide hh it z t
def Va (z:Str):It :=
 ⟨λi _=>i<z.cps.size,
 λi H v H'=>∃T c,v=.ref T/\H T=none/\H'=upd H T (.tup [.int i,.str ⟨#[c]⟩])/\z.cps[i]?=some c,
 λi _=>i=z.cps.size⟩
theorem Y1t{P:U8}{w:W1}{K:U0}{es:List Expr}{kk:Nat}{tp:Pos}{e it:Y0}{z:Str}{t:Tok}(ne:e≠it):
  Turn P w K (.Tuple es kk tp) (Va z) [e,it] e (λi h=>(∃a,IsEnum h e it i a)/\h.IsStrIter it (strIterType z) z t i) where
 mem:=by simp
 obj:=λi h st b hb=>by
  obtain⟨⟨a,d⟩,o,f,_,J⟩:=st;simp only[Cy,Ei,Eh]at hb;rcases hb with rfl | rfl
  ·exact⟨_,d,λv q=>by have G:Data.fields _=Data.cell v:=q;cases G⟩
  ·exact⟨o,f,λv z=>by rw[J]at z;cases z⟩
 keep:=λi h h' st k=>by
  obtain⟨⟨a,d⟩,o,n,r⟩:=st;exact⟨⟨a,k e (by simp) _ d⟩,o,k it (by simp) o n,r⟩
 item:=by
  intro X B p m D i pins s σ H E I j st g;subst B p m;obtain⟨⟨a,d⟩,f⟩:=st;have y:X.A.in1.handled=none:=I.ok.hd D;refine pC (Ky y it z t) d f g ne (by simpa using ne) λx h' tk M L R N V F=>?_;obtain⟨c,u,Q,rfl⟩:=M;refine⟨_,U,ZC L λh2 c1 l=>?_⟩;have T:s.heap.objs.size≠e:=Lr (Bv d);have k2:∀b o,b∉[e,it]->s.heap.get? b=some o->h2.get? b=some o:=λb o hb q=>by
   simp only[Cy,Ei,Eh,not_or]at hb;exact l.extBut b o hb.1 (F b o hb.1 hb.2 q)
  have S:IsTup h2 s.heap.objs.size ([.int i tk,.str ⟨#[c]⟩ u]:U5).toArray:=⟨_,l.extBut _ _ T N,U,_,U⟩;refine⟨.ref s.heap.objs.size,upd H s.heap.objs.size (.tup [.int i,.str ⟨#[c]⟩]),I.turnedT (t':=tk+1) k2 j (Bj _) (.cons ⟨_,U⟩ (.cons ⟨_,U⟩ .nil)) (by show 2<=sizeLine;decide) S,U,⟨_,c,U,I.hok.fresh (Bj _),U,Q⟩,⟨⟨.str ⟨#[c]⟩ u,?_⟩,?_⟩,λb hb=>?_⟩
  ·exact_mod_cast c1
  ·obtain⟨o,n,r⟩:=R;exact⟨o,l.extBut _ _ ne.symm n,r⟩
  ·have C:b<s.heap.objs.size:=by
    simp only[Cy,Ei,Eh]at hb;rcases hb with rfl | rfl
    ·exact Bv d
    ·obtain⟨o,q,_⟩:=f;exact Bv q
   rw[CK (Cw C)];exact(j b hb).1
 done:=by
  intro X B p m D i pins s σ H E I j st g;subst B p m;obtain⟨⟨a,d⟩,f⟩:=st;have y:X.A.in1.handled=none:=I.ok.hd D;have g:i=z.cps.size:=g;subst g;refine pB (Ky y it z t) d f λh' O=>⟨U,I.turnedL (t':=s.toks) (ch:=[e,it]) (λb o hb q=>?_) j⟩;simp only[Cy,Ei,Eh,not_or]at hb;exact O b o hb.2 q
 self:=λ_ _ _ _ _ st h=>by
  obtain⟨⟨a,d⟩,_⟩:=st;exact P_ d h
section
variable {X:Cx}{es:List Expr}{kk:Nat}{tp:Pos}
def Oo (ta:TA):TI:=λσ H R=>ta σ H λvs H1=>∃z,vs=[.str z]/\R (Va z) H1
theorem Y7j{a:Expr}{ta:TA}{p pos:Pos}(hg:Gl X "enumerate")(hm:X.mg "enumerate"=none)(ha:PA X [a] ta)(hs:starEach [a] X.env=[(false,eval a X.env)]:=by rfl):
  PI X (.Tuple es kk tp) (.Call (.Name "enumerate" p) [a] [] pos) (Oo ta):=by
 intro pins s σ H R I h;refine Call_ (Mi I hg hm YM (PyProof.Rows.callWith_type1 (BW (ha pos pins s σ H _ I h) λus c ⟨vs,H1,f,j,i⟩=>?_) (by rw[hs];rfl) (by rfl)));obtain⟨z,e,q⟩:=i;subst e;obtain⟨u,rfl,t,rfl⟩:=vals1 j;refine call_enumerate_str λh' g k n l=>?_;have m:Inv X pins σ H1 {c with heap:=h'}:=f.kept (t':=c.toks) l;refine P_ g ⟨_,[c.heap.objs.size+1,c.heap.objs.size],_,_,H1,U,m,Y1t (Yd _),⟨⟨_,g⟩,k⟩,λb hb=>?_,q⟩;have d:c.heap.objs.size<=b:=by
  simp only[Cy,Ei,Eh]at hb;rcases hb with rfl | rfl
  ·exact Vh _
  ·exact Bj _
 exact f.fpOk d (f.hok.fresh d)
end
theorem Y5x{z:Str}{g:TG}{tb:TS}{D:Ends}{σ:St}{H:Hp}(Pv:Nat->St->Hp->Prop)(h0:Pv 0 σ H)
  (hs:∀i c σ H T,z.cps[i]?=some c->Pv i σ H->H T=none->g (.ref T) σ (upd H T (.tup [.int i,.str ⟨#[c]⟩])) λb H2=>tb {D with nx:=Pv (i+1),ct:=Pv (i+1),bk:=D.nx} b H2) (hd:∀σ H,Pv z.cps.size σ H->D.nx σ H):
  ∃W:Nat->Nat->St->Hp->Prop,(∃m,W 0 m σ H)/\∀i m σ H,W i m σ H ->
   ((Va z).stop i H/\D.nx σ H)\/((Va z).go i H/\∃N:St->Hp->Prop,(∀a H',N a H'->∃m',m'<m/\W (i+1) m' a H')/\∀x H',(Va z).yld i H x H'->g x σ H' λb H2=>tb {D with nx:=N,ct:=N,bk:=D.nx} b H2):=by
 refine⟨λi m σ H=>m=z.cps.size-i/\i<=z.cps.size/\Pv i σ H,⟨z.cps.size,by simp,Dz _,h0⟩,?_⟩;rintro i m σ H ⟨rfl,hi,p⟩;by_cases hlt:i<z.cps.size
 ·refine .inr ⟨hlt,Pv (i+1),λa H' f=>⟨z.cps.size-(i+1),by omega,U,hlt,f⟩,λv H' y=>?_⟩;obtain⟨T,c,rfl,d,rfl,y⟩:=y;exact hs i c σ H T y p d
 ·have e:i=z.cps.size:=by omega
  subst e;exact .inl ⟨U,hd σ H p⟩
theorem sS{K:U0}{a:Y0}{zs:W0}{te:TE}{fr:St}{H1:Hp}{acc:Y0}{Q:VK}(f:Str->V)(hl:Af K H1 a (zs.map V.str))(hn:zs.length<=sizeLine)(hacc:H1 acc=none)(hs:∀z H (N:V->Hp->Prop),z∈zs->Same H1 H->N (f z) H->te (some (.str z)::fr) H N)
  (hd:∀H2,Same H1 H2->H2 acc=some (.lst (zs.map f))->Q (.ref acc) H2):Hq (J9 K a) (Bf 0) te (none::fr) H1 acc Q:=by
 refine QT (K:=K) (a:=a) (xs:=zs.map V.str) (λi ys H'=>Same H1 H'/\H' acc=some (.lst ys)/\ys=(zs.take i).map f) (by rw[BJ];exact hn) ⟨Ax hacc _,Ao,U⟩ (λi ys H e=>e.1.seq hl) ?_ ?_
 ·rintro i x ys H N c h ⟨S,b,rfl⟩ g;rw[Dw]at c;obtain⟨z,d,rfl⟩:=GZ.mp c;refine hs z H N (Il d) S (g _ _ b ⟨Et S hacc,Ao,?_⟩);rw[Km,d,Dn];rfl
 ·rintro ys H h ⟨S,b,rfl⟩;rw[BJ,Lw]at b;exact hd H S b
end L2
namespace Br
open L2 Am Pc Ba Mw Xg
open Ai (top Bs Gm Gy Uo Fits Uc)
open CP (Io)
open Bw (T3)
variable{xs:List V}{p:Nat}
theorem uT{i:Int}(hi:i=p):Du xs (some i) none=xs.drop p:=by
 subst hi;unfold Du;rw[HT.Um];have a:HT.Bp xs.length xs.length none=xs.length:=rfl;rw[a];by_cases h:p<=xs.length
 ·rw[Nat.min_eq_left h,V0 (by rw[Yb];exact Bj _)]
 ·rw[Nat.min_eq_right (by omega),Nat.sub_self,List.take_zero,Yy (by omega)]
theorem X7t{e:Int}(he:e=p):Du xs none (some e)=xs.take p:=by
 subst he;unfold Du;rw[HT.Um];have a:HT.Bp xs.length 0 none=0:=rfl;rw[a,List.drop_zero,Nat.sub_zero];by_cases h:p<=xs.length
 ·rw[Nat.min_eq_left h]
 ·rw[Nat.min_eq_right (by omega),V0 (Bj _),V0 (by omega)]
abbrev Ew (z:Str):Prop:=z.length<=30000
variable{z:Str}
theorem X4c(h:Ew z):z.length<=sizeLine:=Cv h (by decide)
theorem lE(h:Ew z):z.length+2<=sizeLine:=Cv (Nat.add_le_add_right h 2) (by decide)
theorem qM{y:Str}:(Txt.split z y).length<=z.length+2:=by
 unfold Txt.split;split
 ·simp
 ·split
  ·simp
  ·rw[length_partsBetween];have:=StrLaws.occ_length_le z y 0 z.length (z.length+1);omega
theorem Y1w{y w:Str}(h:Ew z)(m:w∈Txt.split z y):Ew w:=Cv (part_short m) h
noncomputable abbrev tS (i:Int):Str:=toString i
theorem xJ:∀a:Nat,a<10->cl (tS (a:Int))=[a+48]/\MN (tS (a:Int))=some a:=by decide +kernel
theorem Ui{a:Int}(h:0<=a/\a<=9):MN (tS a)=some a.toNat:=by
 have:=(xJ a.toNat (by omega)).2;rw[Int.toNat_of_nonneg h.1]at this;exact this
structure Xc (c:Nat) (z:Str) (nm:Str) (ns:U6):Prop where
 ws:wds z=nm::ns.map tS
 low:∀a∈ns,0<=a/\a<=9
 fits:Fits nm ns c
noncomputable def Dr (c k:Nat):Str:=⟨(43::(List.range c).map λj=>if j=k then 115 else 46).toArray⟩
abbrev Ho:=Sum Gm Nat
def Eu (H:Hp)(p:Y0):Ho->Prop
 | .inl m=>H p=some (Gy m.nm m.ns)
 | .inr k=>∃r,H p=some (.tup [.str "look",.ref r])/\H r=some (T3 (Io k))
variable{H H':Hp}{p:Y0}{x:Ho}
theorem Eu.same(h:Eu H p x)(s:Same H H'):Eu H' p x:=by
 cases x with
 | inl m=>exact s _ _ h
 | inr k=>obtain⟨r,a,b⟩:=h;exact⟨r,s _ _ a,s _ _ b⟩
theorem Eu.upd{l:Y0}{ys:List V}(h:Eu H p x)(hl:H l=some (.lst xs)):Eu (upd H l (.lst ys)) p x:=by
 have c:∀q t,H q=some (.tup t)->L2.upd H l (.lst ys) q=some (.tup t):=λq t e=>by rw[CK (Gg e hl (by intro z;cases z))];exact e
 cases x with
 | inl m=>exact c _ _ h
 | inr k=>obtain⟨r,a,b⟩:=h;exact⟨r,c _ _ a,c _ _ b⟩
noncomputable def Fg:Ho->Bool
 | .inl _=>false
 | .inr _=>true
def Wr (c:Nat)(z:Str):Ho->Prop
 | .inl m=>Xc c z m.nm m.ns
 | .inr k=>k<c/\wds z=[Str.ofString "look",Dr c k]
abbrev Fj (H:Hp)(rp:U3)(xs:List Ho):Prop:=Paired (Eu H) rp xs
variable{xs:List Ho}
theorem Fj.same{rp:U3}(h:Fj H rp xs)(s:Same H H'):Fj H' rp xs:=Paired.imp' (λ_ _ c=>Eu.same c s) h
theorem Fj.upd{l:Y0}{as bs:List V}{rp:U3}(h:Fj H rp xs)(hl:H l=some (.lst as)):Fj (upd H l (.lst bs)) rp xs:=Paired.imp' (λ_ _ c=>Eu.upd c hl) h
theorem Uz{A B:Type}{R:A->B->Prop}:∀{ps:List A}{ms:List B}{i:Nat}{p:A},Paired R ps ms->ps[i]?=some p->∃m,ms[i]?=some m/\R p m
 | _,_,i,_,.nil,h=>by cases i<;>cases h
 | _,_,0,_,.cons a t,h=>by cases h;exact⟨_,rfl,a⟩
 | _,_,i+1,_,.cons a t,h=>Uz (i:=i) t h
def Uq:Sp:=λvs H Q _=>∃z,vs=[.str z]/\Ew z/\∀(l:Y0) (H':Hp),H l=none->Same H H'->H' l=some (.lst ((wds z).map V.str))->Q (.ref l) H'
def tu:Sp:=λvs H Q _=>∃z,vs=[.str z]/\Ew z/\wds z≠[]/\∀(l:Y0) (H':Hp),H l=none->Same H H'->H' l=some (.lst ((Txt.split z ";").map V.str))->Q (.ref l) H'
def M8:Sp:=λvs H Q _=>∃a:Int,vs=[.str (tS a)]/\0<=a/\a<=9/\Q (.bl true) H
def lJ:Sp:=λvs H Q _=>∃(z:Str) (c:Nat) (nm:Str) (ns:U6),vs=[.str z,.int c]/\Ew z/\Xc c z nm ns/\∀(p:Y0) (H':Hp),Same H H'->H' p=some (Gy nm ns)->Q (.ref p) H'
section
variable {P:U8}{w:W1}{K:U0}{mg:U4}{base:Heap}{k:Nat}{h:Heap}
theorem Y7p(F:Aa K "words_of" (top 121) .none)(X:K.In h)(G:Ng h mg):Ag P w K mg base (k+1) "words_of" ["part"] Uq:=by
 refine F.cal X G ["part"] λm H vs Q E n h=>?_;obtain⟨z,rfl,fz,e⟩:=h;refine⟨_,(@Aj _ _ _ (Ay (wu rfl (BZ.of (Nc:=["word"]) (mp:=[none]) (by kernel_rfl)) (JC (Iu Kp oh ou uX (pv 0) (Ab Cg Ae))) (λ_ _ _ _=>(Ck (i:=0) (show (["word"]:W0).Nodup by decide +kernel) rfl (Or.inl rfl))) (λ_ _ _ _=>(Bq Jh (pv 0) Cg (Ac _))) (λ_ _ _ _=>(pv 0))))),?_⟩;try dsimp only[Bg]
 refine⟨_,U,U,z,_,U,U,by decide,lE fz,λl j=>?_⟩;have d:=Ax j (.lst ((Txt.split z " ").map V.str));refine⟨l,U,⟨_,Af.of Ao⟩,λacc a=>?_⟩;refine _R (K:=K) ne0 a (Af.of Ao) (Cv qM (lE fz)) (λy H2 N g b c=>⟨_,U,U,_,U,c⟩) (λy H2 N g o b c=>⟨_,U,c⟩) (λH2 b f=>e acc H2 (d.free a) (d.trans b) f)
theorem Y8f(F:Aa K "parts_of" (top 120) .none)(X:K.In h)(G:Ng h mg)(B:Bs mg)(cA:Ag P w K mg base k "words_of" ["part"] Uq):Ag P w K mg base (k+1) "parts_of" ["text"] tu:=by
 refine F.cal X G ["text"] λf H vs Q E a h=>?_;obtain⟨z,rfl,fz,en,c⟩:=h;refine⟨_,(@Aj _ _ _ (Ay (Lf (Bq Di (Cm IW rfl B.len Fz (Ab (Av cA a rfl (Ab (pv 0) Ae)) Ae)) Ad (Ac _)) (@Gv _ _ _ _ Ae) (Iu Kp oh ou uX (pv 0) (Ab Cg Ae))))),?_⟩;try dsimp only[Bg]
 refine⟨_,U,z,U,fz,λl H1 _ b d=>⟨l,_,U,.inl (Af.of d),U,_,U,G4 (λe=>?_) (λe=>?_)⟩⟩
 ·exact absurd (List.eq_nil_of_length_eq_zero (by rw[BJ]at e;omega)) en
 ·exact⟨_,U,U,z,_,U,U,by decide,lE fz,λr a=>c r _ (b.free a) (b.trans (Ax a _)) Ao⟩
theorem X6j{tF:Tok}(gF:mg "FIGURES"=some (.str "0123456789" tF))(F:Aa K "is_figure" (top 123) .none)(X:K.In h)(G:Ng h mg)(B:Bs mg):Ag P w K mg base (k+1) "is_figure" ["word"] M8:=by
 refine F.cal X G ["word"] λf H vs Q E g h=>?_;obtain⟨a,rfl,d,c,q⟩:=h;obtain⟨_,l,_⟩:=rY (Ui ⟨d,c⟩);have b:=X7n l;rw[Ui ⟨d,c⟩]at b;refine⟨_,(@Aj _ _ _ (Ay (Nr (JB Di (Cm Ws rfl B.len Fz (Ab (pv 0) Ae)) Ad (Ac _)) (Lb (JB Y4f (pv 0) (Jw (v:=.str (Str.ofString "0123456789")) rfl gF ⟨_,U⟩) rfl))))),?_⟩;try dsimp only[Bg]
 refine⟨_,U,_,U,Cv (YD l) (by decide),U,_,U,G4 (λe=>?_) (λe=>absurd (by rw[l];rfl) e)⟩;refine⟨_,U,_,_,U,U,?_⟩;unfold je at b;rw[b];exact q
theorem Y4r(F:Aa K "read_move" (top 122) .none)(X:K.In h)(G:Ng h mg)(B:Bs mg)(cA:Ag P w K mg base k "words_of" ["part"] Uq)(dR:Ag P w K mg base k "is_figure" ["word"] M8)(cI:Ag P w K mg base k "check_move" ["move","cells"] Uo):Ag P w K mg base (k+1) "read_move" ["part","cells"] lJ:=by
 refine F.cal X G ["part","cells","words","move"] λnd H vs Q E J h=>?_;obtain⟨z,c,nm,ns,rfl,fz,W,kq⟩:=h
 refine⟨_,(@Ak _ _ _ _ _ (@Bd _ _ 2 _ _ _ _ nd rfl (Or.inl rfl) (Av cA J rfl (Ab (pv 0) Ae)) rfl (.inl rfl))
  (@Ak _ _ _ _ _ (CQ (E_ (Dv (Cm (lO rfl) rfl B.all boot_all (Ab (GD rfl (BZ.of (Nc:=["word"]) (mp:=[none]) (by kernel_rfl)) (JC (J5 WR (pv 2) (Jk Ad) Le)) (λ_ _ _ _=>(Ck (i:=0) (show (["word"]:W0).Nodup by decide +kernel) rfl (Or.inl rfl))) (λ_ _ _ _=>(Av dR J rfl (Ab (pv 0) Ae)))) Ae))))
   (@Aj _ _ _ (Ay mR))
   CT)
  (@Ak _ _ _ _ _ (@Bd _ _ 3 _ _ _ _ nd rfl (Or.inl rfl) (IV qu rfl B.tuple OD (Ab (Aq mQ (J5 WR (pv 2) Le (Jk Ad)) (GD rfl (BZ.of (Nc:=["word"]) (mp:=[none]) (by kernel_rfl)) (JC (J5 WR (pv 2) (Jk Ad) Le)) (λ_ _ _ _=>(Ck (i:=0) (show (["word"]:W0).Nodup by decide +kernel) rfl (Or.inl rfl))) (λ_ _ _ _=>(IV qm rfl B.int RZ (Ab (pv 0) Ae))))) Ae)) rfl (.inl rfl))
  (@Aj _ _ _ (tR (λ_ _ z=>z) (@Aj _ _ _ (Ay (Av cI J rfl (Ab (pv 3) (Ab (pv 1) Ae)))))))))),?_⟩
 try dsimp only[Bg]
 refine⟨_,U,z,U,fz,λl H1 _ S1 Y=>?_⟩;rw[W.ws]at Y;have l3:=W.fits.form.len;have b:∀n:Nat,n<=40000->n<=sizeLine:=λn h=>Cv h (by decide);have ld:((nm::ns.map tS).map V.str).drop 1=(ns.map tS).map V.str:=rfl;have fg:∀y∈ns.map tS,∃a:Int,y=tS a/\0<=a/\a<=9:=λy j=>by
  obtain⟨a,q,rfl⟩:=Hu.mp j;exact⟨a,U,W.low a q⟩
 refine⟨_,U,_,U,l,_,U,Af.of Y,λr O=>?_⟩;rw[uT (i:=1) (p:=1) rfl,ld];have s2:=Ax O (.lst ((ns.map tS).map V.str));have I:upd H1 r (.lst ((ns.map tS).map V.str)) r=some (.lst ((ns.map tS).map V.str)):=Ao;generalize upd H1 r (.lst ((ns.map tS).map V.str))=H2 at s2 I ⊢;have ll:(ns.map tS).length<=3:=by rw[BJ];exact l3
 refine⟨r,U,⟨_,Af.of I⟩,λacc m=>?_⟩;refine sS (K:=K) (λ_=>.bl true) (Af.of I) (b _ (by omega)) m (λy x N j S3 s=>?_) (λx S3 a3=>?_)
 ·obtain⟨a,rfl,a0,a9⟩:=fg y j;exact⟨_,U,a,U,a0,a9,s⟩
 have e3:(ns.map tS).map (λ_=>V.bl true)=(ns.map λ_=>true).map V.bl:=by rw[Jq,Jq];rfl
 rw[e3]at a3;have g:=s2.trans S3;have d:=g _ _ Y;refine⟨acc,_,U,Af.of a3,_,U,?_⟩;rw[show (ns.map λ_=>true).all id=true by simp];refine Bc ?_;refine⟨_,U,_,U,l,_,U,Af.of d,λc2 M=>?_⟩;rw[X7t (e:=1) (p:=1) rfl,show ((nm::ns.map tS).map V.str).take 1=[V.str nm] from rfl];have T:=Ax M (.lst [V.str nm]);have Z:upd x c2 (.lst [V.str nm]) c2=some (.lst [V.str nm]):=Ao;generalize upd x c2 (.lst [V.str nm])=H4 at T Z ⊢;refine⟨_,U,_,U,l,_,U,Af.of (T _ _ d),λc3 L=>?_⟩;rw[uT (i:=1) (p:=1) rfl,ld];have D:=Ax L (.lst ((ns.map tS).map V.str));have R:upd H4 c3 (.lst ((ns.map tS).map V.str)) c3=some (.lst ((ns.map tS).map V.str)):=Ao;generalize upd H4 c3 (.lst ((ns.map tS).map V.str))=H5 at D R ⊢;refine⟨c3,U,⟨_,Af.of R⟩,λv f=>?_⟩;refine sS (K:=K) (λw=>.int ((MN w).getD 0:Nat)) (Af.of R) (b _ (by omega)) f (λy A N j u s=>?_) (λA u a6=>?_)
 ·obtain⟨a,rfl,aa⟩:=fg y j;obtain⟨_,l1,it⟩:=rY (Ui aa);refine⟨_,U,_,_,U,it,by omega,?_⟩;rw[Ui aa]at s;exact s
 have ea:(ns.map tS).map (λw=>V.int ((MN w).getD 0:Nat))=ns.map V.int:=by
  rw[Jq];exact List.map_congr_left λa q=>by
   show V.int ((MN (tS a)).getD 0:Nat)=_;rw[Ui (W.low a q)];show V.int (a.toNat:Nat)=_;rw[Int.toNat_of_nonneg (W.low a q).1]
 rw[ea]at a6;refine⟨c2,v,_,_,U,U,(D.trans u) _ _ Z,a6,b _ (by simp only[BJ,NQ,List.length_nil];omega),λo C=>?_⟩;have s7:=Ax C (.lst ([V.str nm]++ns.map V.int));have e7:upd A o (.lst ([V.str nm]++ns.map V.int)) o=some (.lst ([V.str nm]++ns.map V.int)):=Ao;generalize upd A o (.lst ([V.str nm]++ns.map V.int))=H7 at s7 e7 ⊢;refine⟨o,_,U,.inl ⟨Af.of e7,λtp t=>?_⟩⟩;have s8:=Ax t (.tup ([V.str nm]++ns.map V.int));exact⟨_,U,_,U,tp,nm,ns,c,U,Ao,W.fits,λH' S=>kq _ _ ((S1.trans (g.trans (T.trans (D.trans (u.trans (s7.trans s8)))))).trans S) (S _ _ Ao)⟩
end
end Br
namespace xY
open PySem.Builtin.Str PySem.StrLaws
noncomputable def one (c:Nat):Str:=⟨#[c]⟩
end xY
set_option maxHeartbeats 1000000
namespace Br
open L2 Am Pc Ba Mw Xg
open Ai (top Bs Gm Gy Uo Fits Uc)
open CP (Io)
open Bw (T3)
open xY (one)
theorem small{n:Nat}(h:n<=40000):n<=sizeLine:=Cv h (by decide)
theorem X7z{l:W3}{i c:Nat}(h:l[i]?=some c):Ez l (i:Int)=some c:=by
 obtain⟨hi,rfl⟩:=Fb.mp h;unfold Ez Om;rw[if_pos (by omega),if_pos (by omega)];simp[hi]
theorem N8{z:Str}{c0:Nat}{cs:W3}(e:z.cps.toList=c0::cs):Txt.slice z (some 1) none=⟨cs.toArray⟩:=by
 have h:=StrLaws.sliceText_from (x:=z) (i:=1) ⟨by decide,by rw[e];simp only[NQ];omega⟩;refine(show Txt.slice z (some 1) none=StrLaws.sliceText z (some 1) none from rfl).trans (h.trans ?_);rw[e];congr 2;show List.take (((cs.length+1:Nat):Int)-1).toNat cs=cs;have:(((cs.length+1:Nat):Int)-1).toNat=cs.length:=by omega
 rw[this,Lw]
noncomputable def Lj (k i:Nat):Nat:=if k<i then 2^k else 0
theorem Jr(x y:Nat):Builtin.bitOr (x:Int) (y:Int)=((x ||| y:Nat):Int):=by
 have h:Builtin.bitXor (x:Int) (y:Int)=Builtin.bitOr x y-Builtin.bitAnd x y:=rfl;rw[O6,Jg]at h;have e:=Wx (x+y+1) x y (by omega) (by omega);omega
theorem HS:Txt.find (Str.ofString ".fsb") ⟨#[46]⟩=0/\Txt.find (Str.ofString ".fsb") ⟨#[115]⟩=2:=by decide +kernel
def uD:Sp:=λvs H Q _=>∃c k:Nat,vs=[.str (Dr c k)]/\1<=c/\c<=6/\k<c/\∀(p r:Y0) (H':Hp),Same H H'->H' p=some (.tup [.ref r,.int c])->H' r=some (T3 (Io k))->Q (.ref p) H'
def t_:Sp:=λvs H Q _=>∃c k:Nat,vs=[.str (Dr c k),.int c]/\1<=c/\c<=6/\k<c/\∀(p:Y0) (H':Hp),Same H H'->Eu H' p (.inr k)->Q (.ref p) H'
def uE:Sp:=λvs H Q _=>∃(z:Str) (c:Nat) (x:Ho),vs=[.str z,.int c]/\Ew z/\1<=c/\c<=6/\Wr c z x/\∀(p:Y0) (H':Hp),Same H H'->Eu H' p x->Q (.ref p) H'
structure xT (c:Nat) (z:Str) (xs:List Ho):Prop where
 ne:wds z≠[]
 sp:Paired (Wr c) (Txt.split z ";") xs
 lk:(xs.filter Fg).length<=6
def uo:Sp:=λvs H Q _=>∃(z:Str) (c:Nat) (xs:List Ho),vs=[.str z,.int c]/\Ew z/\1<=c/\c<=6/\xT c z xs/\∀(l:Y0) (rp:U3) (H':Hp),Same H H'->H' l=some (.lst (rp.map V.ref))->Fj H' rp xs->Q (.ref l) H'
structure Pl (z:Str) (c:Nat) (xs:List Ho):Prop where
 fine:Ew z
 c1:1<=c
 c6:c<=6
 ex:∃r,Txt.partition z ":"=(tS c,Str.ofString ":",r)/\xT c r xs
noncomputable abbrev Mz:List Str:=["1","2","3","4","5","6"]
def uF:Sp:=λvs H Q _=>∃(z:Str) (c:Nat) (xs:List Ho),vs=[.str z]/\Pl z c xs/\∀(p l:Y0) (rp:U3) (H':Hp),Same H H'->H' p=some (.tup [.int c,.ref l])->H' l=some (.lst (rp.map V.ref))->Fj H' rp xs->Q (.ref p) H'
theorem X3r(xs:List Ho)(i:Nat){x:Ho}(h:xs[i]?=some x):((xs.take (i+1)).filter Fg).length=((xs.take i).filter Fg).length+(if Fg x=true then 1 else 0):=by
 rw[Km,h,QB,Rr,G3];cases e:Fg x<;>simp[e]
theorem j7{nm:Str}{ns:U6}{c:Nat}(f:Fits nm ns c):nm≠Str.ofString "look":=by
 rintro rfl;have:=f.form.num;rw[show L2.numAt Ai.NB (Str.ofString "look")=none by decide +kernel]at this;cases this
theorem Mh(x:V)(l:List V):Ez (x::l) 0=some x:=O_ (show (x::l)[0]?=some x from rfl)
theorem z_:∀c:Nat,c<7->1<=c->inV (.str (tS (c:Int))) (Mz.map V.str)=true/\wds (tS (c:Int))=[tS (c:Int)]/\PySem.intText? (tS (c:Int))=some (c:Int)/\(tS (c:Int)).length=1:=by decide +kernel
section
variable {P:U8}{w:W1}{K:U0}{mg:U4}{base:Heap}{k:Nat}{h:Heap}
theorem Y8d{tC:Tok}(gC:mg "CELL_SIGNS"=some (.str (Str.ofString ".fsb") tC))(F:Aa K "read_mark" (top 40) .none)(X:K.In h)(G:Ng h mg)(B:Bs mg)(cW:Ag P w K mg base k "ones" ["number"] FQ):Ag P w K mg base (k+1) "read_mark" ["text"] uD:=by
 refine F.cal X G ["text","flips","signs","cell","sign","found","about"] λg H vs Q E s h=>?_;obtain⟨c,k,rfl,c1,c6,Y,R⟩:=h
 refine⟨_,(@Ak _ _ _ _ _ (CQ (PW.pt (Fv (E_ (Dv (Cm J7 rfl B.isinstance Ik (Ab (pv 0) (Ab (I_ (v:=.ty "str") rfl B.str K8 rfl) Ae))))) (Fv (Bq Nk (Cm Ws rfl B.len Fz (Ab (pv 0) Ae)) Ad (Ac _)) (Iw (Bq VH (Cm Ws rfl B.len Fz (Ab (pv 0) Ae)) Ad (Ac _))))))
   (@Aj _ _ _ Gh)
   CT)
  (@Ak _ _ _ _ _ (CQ (Bq qp (Al wL (pv 0) Ad (λ_ _=>rfl)) (@Fw _ _ _ _ _ (Ab Cg (Ab Cg Ae))) rfl)
   (@Aj _ _ _ Gh)
   CT)
  (@Ak _ _ _ _ _ (@Bd _ _ 1 _ _ _ _ g rfl (Or.inl rfl) Ad rfl (.inl rfl))
  (@Ak _ _ _ _ _ (@Bd _ _ 2 _ _ _ _ g rfl (Or.inl rfl) Ad rfl (.inl rfl))
  (@Ak _ _ _ _ _ (Jv PassesOwn.never rfl (Y7j rfl B.enumerate (Ab (J5 X5m (pv 0) (Jk Ad) Le) Ae)) (@O8 _ _ _ _ _ _ rfl (@IK _ _ _ _ _ (@Ck _ _ 3 _ g rfl (Or.inl rfl) (by first | exact .inl rfl | exact .inr rfl)) (@IK _ _ _ _ _ (@Ck _ _ 4 _ g rfl (Or.inl rfl) (by first | exact .inl rfl | exact .inr rfl)) PB rfl) rfl) rfl rfl)
   (@Ak _ _ _ _ _ (@Bd _ _ 5 _ _ _ _ g rfl (Or.inl rfl) (Iu Kp PySem.F.slot_str_find PySem.F.type_str_find X3o (Jw (v:=.str (Str.ofString ".fsb")) rfl gC ⟨_,U⟩) (Ab (pv 4) Ae)) rfl (.inl rfl))
   (@Ak _ _ _ _ _ (CQ (Bq Nk (pv 5) Ad (Ac _))
    (@Aj _ _ _ Gh)
    CT)
   (@Ak _ _ _ _ _ (@Bd _ _ 1 _ _ _ _ g rfl (Or.inl rfl) (Aq Nm (pv 1) (Aq K3 (Aq LR (pv 5) Ad) (pv 3))) rfl (.inl rfl))
   (@Aj _ _ _ (@Bd _ _ 2 _ _ _ _ g rfl (Or.inl rfl) (Aq Nm (pv 2) (Aq K3 (Aq Ud (pv 5) Ad) (pv 3))) rfl (.inl rfl)))))))
  (@K4 _ _ _ _ _ (@Bd _ _ 6 _ _ _ _ g rfl (Or.inl rfl) (Lf (Bq Di (Al wL (pv 0) Ad (λ_ _=>rfl)) Cg (Ac _)) Ad Ad) rfl (.inl rfl))
  (@Aj _ _ _ (Ay (@Fw _ _ _ _ _ (Ab (@Fw _ _ _ _ _ (Ab (Aq Jj (Aq Gu (Av cW s rfl (Ab (Aq LR (pv 1) (pv 2)) Ae)) (pv 6)) Ad) (Ab (pv 1) (Ab (pv 2) Ae)))) (Ab (Aq G5 (Cm Ws rfl B.len Fz (Ab (pv 0) Ae)) Ad) Ae))))))))))),?_⟩
 try dsimp only[Bg]
 have I:(Dr c k).cps.toList=43::(List.range c).map λj=>if j=k then 115 else 46:=rfl;have ln:(Dr c k).length=c+1:=by show ((43::_).toArray:Array Nat).size=_;simp
 have a:(Dr c k).length<=sizeLine:=small (by omega);refine⟨_,U,_,_,_,true,U,CZ.str _,Uc K,_,U,Bc ?_⟩;refine⟨_,U,_,U,a,_,_,U,U,_,U,BX (λc=>absurd c (by omega)) (λc2=>?_)⟩;refine⟨_,U,_,U,a,_,_,U,U,_,U,BX (λc=>absurd c (by omega)) (λc7=>?_)⟩;have at0:Ez (Dr c k).cps.toList 0=some 43:=X7z (i:=0) (by rw[I];rfl);have q:inV (.str (one 43)) [V.str (Str.ofString "+"),V.str (Str.ofString "-")]=true:=by decide +kernel
 refine⟨_,U,_,0,43,U,U,a,at0,(show 2<=sizeLine by decide),λt ft=>⟨t,[V.str (Str.ofString "+"),V.str (Str.ofString "-")],U,.inr (Ah.of Ao),U,U,_,U,?_⟩⟩;have C:=Ax ft (.tup [V.str (Str.ofString "+"),V.str (Str.ofString "-")]);generalize upd H t (.tup [V.str (Str.ofString "+"),V.str (Str.ofString "-")])=H1 at C ⊢;refine Js (λe=>absurd (q.symm.trans e) (by decide)) (λ_=>?_);refine⟨_,U,1,U,_,U,a,_,U,?_⟩;rw[N8 I];refine Y5x (z:=⟨((List.range c).map λj=>if j=k then 115 else 46).toArray⟩) (λi σ H'=>Same H H'/\∃(l n m:Option V),σ=[some (.str (Dr c k)),some (.int 0),some (.int (Lj k i:Nat)),l,n,m,none]) ⟨C,_,_,_,U⟩ ?_ ?_
 ·rintro i x σ H2 T f ⟨o,l,n,m,rfl⟩ Z;have f:((List.range c).map λj=>if j=k then 115 else 46)[i]?=some x:=by simpa using f
  rw[Dw]at f;obtain⟨j,S,f⟩:=GZ.mp f;obtain⟨hi,y⟩:=Fb.mp S;rw[Kl]at hi;rw[List.getElem_range]at y;subst y;have S3:=o.trans (Ax Z (.tup [V.int i,V.str ⟨#[x]⟩]));refine⟨T,_,U,Ah.of Ao,U,_,_,U,_,_,U,U,?_⟩;refine⟨U,_,U,_,_,U,U,?_⟩;obtain⟨d,fs,L,es⟩:∃d:Nat,Txt.find (Str.ofString ".fsb") ⟨#[x]⟩=2*(d:Int)/\d<2/\Lj k i ||| (d*2^i)=Lj k (i+1):=by
   unfold Lj;by_cases e:i=k
   ·rw[if_pos e]at f;rw[<-f,if_neg (by omega),if_pos (by omega),e];exact⟨1,HS.2,by decide,by rw[Nat.one_mul,Nat.zero_or]⟩
   ·rw[if_neg e]at f;rw[<-f];refine⟨0,HS.1,by decide,?_⟩;rw[Nat.zero_mul,Nat.or_zero];by_cases c:k<i
    ·rw[if_pos c,if_pos (by omega)]
    ·rw[if_neg c,if_neg (by omega)]
  rw[fs];have J:Builtin.bitAnd (2*(d:Int)) 1=0:=by
   have:=Jg (2*d) 1;rw[Nat.and_one_is_mod,Nat.mul_mod_right]at this;rw[<-show ((2*d:Nat):Int)=2*(d:Int) from YT 2 d];exact this
  have A:2*(d:Int) / 2^(1:Int).toNat=(d:Int):=by
   show 2*(d:Int) / 2^1=_;omega
  refine⟨_,U,_,_,U,U,_,U,BX (λz=>absurd z (by show ¬ 2*(d:Int)<0;omega)) (λ_=>?_)⟩;refine⟨_,U,_,U,_,_,U,U,_,U,_,_,U,U,⟨3,by rw[J];decide,by show (0:Int)<=(i:Int);omega,by show ((3:Nat):Int)+(i:Int)<=1048576;omega⟩,_,_,U,U,?_⟩;refine⟨_,U,_,U,_,_,U,U,(by show (0:Int)<=1;decide),_,U,_,_,U,U,⟨3,by rw[A];exact Sz.of_bound (b:=4) (by omega) (by omega) (by decide),by show (0:Int)<=(i:Int);omega,by show ((3:Nat):Int)+(i:Int)<=1048576;omega⟩,_,_,U,U,S3,some (.int i),some (.str ⟨#[x]⟩),some (.int (2*(d:Int))),?_⟩;show [some (V.str (Dr c k)),some (V.int (Builtin.bitOr 0 (Builtin.bitAnd (2*(d:Int)) 1*2^(i:Int).toNat))),some (V.int (Builtin.bitOr (Lj k i:Nat) (2*(d:Int) / 2^(1:Int).toNat*2^(i:Int).toNat))),some (V.int i),some (V.str ⟨#[x]⟩),some (V.int (2*(d:Int))),none]=_;have W:Builtin.bitOr 0 (Builtin.bitAnd (2*(d:Int)) 1*2^(i:Int).toNat)=0:=by rw[J,Int.zero_mul];rfl
  have O:Builtin.bitOr (Lj k i:Nat) (2*(d:Int) / 2^(1:Int).toNat*2^(i:Int).toNat)=((Lj k (i+1):Nat):Int):=by
   rw[A,<-es,J2,<-Jr];congr 1
  rw[W,O]
 rintro σ H2 ⟨o,l,n,m,rfl⟩;have u:Lj k (⟨((List.range c).map λj=>if j=k then 115 else 46).toArray⟩:Str).cps.size=2^k:=by
  unfold Lj;rw[if_pos (by show k<((List.range c).map _).toArray.size;simp;exact Y)]
 rw[u];refine⟨λD H'=>H'=H2/\D=[some (.str (Dr c k)),some (.int 0),some (.int (2^k:Nat)),l,n,m,some (.int 0)],?_,?_⟩
 ·refine⟨_,U,_,0,43,U,U,a,at0,U,_,U,?_⟩;exact BX (λc=>absurd c (show V.str (one 43)≠V.str (Str.ofString "-") by decide)) (λc=>⟨U,U⟩)
 rintro D H3 ⟨rfl,rfl⟩;have M:Builtin.bitAnd 0 ((2^k:Nat):Int)=((0:Nat):Int):=by
  have:=Jg 0 (2^k);rw[Nat.zero_and]at this;exact this
 have N:(((Dr c k).length:Nat):Int)-1=(c:Nat):=by omega
 refine⟨_,U,_,U,_,_,U,U,0,(by show [V.int (Builtin.bitAnd 0 ((2^k:Nat):Int))]=_;rw[M]),_,U,_,_,U,U,_,_,U,U,(by decide:(0:Int)<4),_,U,_,U,(show 3<=sizeLine by decide),λr s=>⟨_,U,_,U,a,_,_,U,U,(show 2<=sizeLine by decide),λp hp=>?_⟩⟩;refine R p r _ ((o.trans (Ax s _)).trans (Ax hp _)) ?_ ?_
 ·rw[Ao];show some (HO.tup [V.ref r,V.int (((Dr c k).length:Nat)-1)])=_;rw[N]
 ·refine Ax hp _ _ _ ?_;rw[Ao,j_];rfl
theorem Y8e(F:Aa K "read_look" (top 130) .none)(X:K.In h)(G:Ng h mg)(dU:Ag P w K mg base k "read_mark" ["text"] uD):Ag P w K mg base (k+1) "read_look" ["text","cells"] t_:=by
 refine F.cal X G ["text","cells","told"] λf H vs Q E g h=>?_;obtain⟨c,k,rfl,c1,c6,j,d⟩:=h
 refine⟨_,(@Ak _ _ _ _ _ (tR (λ_ _ z=>z) (@Aj _ _ _ (@Bd _ _ 2 _ _ _ _ f rfl (Or.inl rfl) (Av dU g rfl (Ab (pv 0) Ae)) rfl (.inl rfl))))
  (@Aj _ _ _ (Ay (Lf (Bq Di (Al Az (pv 2) Ad (λ_ _=>rfl)) (pv 1) (Ac _)) (@Fw _ _ _ _ _ (Ab Cg (Ab (Al Az (pv 2) Ad (λ_ _=>rfl)) Ae))) mR)))),?_⟩
 try dsimp only[Bg]
 refine⟨_,U,c,k,U,c1,c6,j,λp r H1 i hp a=>?_⟩;have M:Ah K H1 p [.ref r,.int c]:=Ah.of hp;refine⟨_,U,p,_,_,_,U,U,M,U,_,U,U,_,U,G4 (λ_=>?_) (λe=>absurd rfl e)⟩;exact⟨_,U,p,_,_,_,U,U,M,U,(show 2<=sizeLine by decide),λt b=>d t _ (i.trans (Ax b _)) ⟨r,Ao,Ax b _ _ _ a⟩⟩
theorem Y8c(F:Aa K "read_part" (top 129) .none)(X:K.In h)(G:Ng h mg)(B:Bs mg)(cA:Ag P w K mg base k "words_of" ["part"] Uq)(dS:Ag P w K mg base k "read_look" ["text","cells"] t_)(dW:Ag P w K mg base k "read_move" ["part","cells"] lJ):Ag P w K mg base (k+1) "read_part" ["written","cells"] uE:=by
 refine F.cal X G ["written","cells","words"] λo H vs Q E g h=>?_;obtain⟨z,c,x,rfl,fz,c1,c6,W,j⟩:=h
 refine⟨_,(@Ak _ _ _ _ _ (@Bd _ _ 2 _ _ _ _ o rfl (Or.inl rfl) (Av cA g rfl (Ab (pv 0) Ae)) rfl (.inl rfl))
  (@Ak _ _ _ _ _ (CQ (PW.pt (O9 (Bq Di (Cm IW rfl B.len Fz (Ab (pv 2) Ae)) Ad (Ac _)) (QW (Bq Di (Al DK (pv 2) Ad (λ_ _=>rfl)) Cg (Ac _)))))
   (@Aj _ _ _ (Ay (Av dS g rfl (Ab (Al DK (pv 2) Ad (λ_ _=>rfl)) (Ab (pv 1) Ae)))))
   CT)
  (@Aj _ _ _ (Ay (Av dW g rfl (Ab (pv 0) (Ab (pv 1) Ae))))))),?_⟩
 try dsimp only[Bg]
 refine⟨_,U,z,U,fz,λl H1 _ n b=>?_⟩;cases x with
 | inl m =>
  have W:Xc c z m.nm m.ns:=W;have a:lJ [V.str z,V.int (c:Int)] H1 Q E0:=⟨z,c,_,_,U,fz,W,λp H2 f e=>j p H2 (n.trans f) e⟩;rw[W.ws]at b;refine⟨_,U,l,_,U,.inl (Af.of b),U,_,U,G4 (λe=>?_) (λe=>⟨_,U,_,U,a⟩)⟩;exact⟨_,U,l,_,_,_,U,U,Af.of b,Mh _ _,U,_,U,BX (λd=>absurd (V.str.inj d) (j7 W.fits)) (λd=>⟨_,U,_,U,a⟩)⟩
 | inr k =>
  obtain⟨r,q⟩:=W;rw[q]at b;have i:Af K H1 l [V.str (Str.ofString "look"),V.str (Dr c k)]:=Af.of b;refine⟨_,U,l,_,U,.inl i,U,_,U,G4 (λe=>?_) (λe=>absurd rfl e)⟩;refine⟨_,U,l,_,_,_,U,U,i,U,U,_,U,BX (λd=>?_) (λd=>absurd rfl d)⟩;exact⟨_,U,l,_,_,_,U,U,i,U,_,U,c,k,U,c1,c6,r,λp H2 f e=>j p H2 (n.trans f) e⟩
theorem Y4o{tL:Tok}(gL:mg "MOST_LOOKS"=some (.int 6 tL))(F:Aa K "read_parts" (top 128) .none)(X:K.In h)(G:Ng h mg)(B:Bs mg)(eB:Ag P w K mg base k "parts_of" ["text"] tu)(dX:Ag P w K mg base k "read_part" ["written","cells"] uE):Ag P w K mg base (k+1) "read_parts" ["text","cells"] uo:=by
 refine F.cal X G ["text","cells","parts","looks","place","written","part"] λg H vs Q E M h=>?_;obtain⟨z,c,xs,rfl,fz,c1,c6,⟨ne,sp,l6⟩,kq⟩:=h
 refine⟨_,(@Ak _ _ _ _ _ (@Bd _ _ 2 _ _ _ _ g rfl (Or.inl rfl) (@Gv _ _ _ _ Ae) rfl (.inl rfl))
  (@Ak _ _ _ _ _ (@Bd _ _ 3 _ _ _ _ g rfl (Or.inl rfl) Ad rfl (.inl rfl))
  (@Ak _ _ _ _ _ (Jv PassesOwn.never rfl (Y7k rfl B.enumerate (Ab (Av eB M rfl (Ab (pv 0) Ae)) Ae)) (@O8 _ _ _ _ _ _ rfl (@IK _ _ _ _ _ (@Ck _ _ 4 _ g rfl (Or.inl rfl) (by first | exact .inl rfl | exact .inr rfl)) (@IK _ _ _ _ _ (@Ck _ _ 5 _ g rfl (Or.inl rfl) (by first | exact .inl rfl | exact .inr rfl)) PB rfl) rfl) rfl rfl)
   (@Ak _ _ _ _ _ (@Bd _ _ 6 _ _ _ _ g rfl (Or.inl rfl) (Av dX M rfl (Ab (pv 5) (Ab (pv 1) Ae))) rfl (.inl rfl))
   (@Ak _ _ _ _ _ (CQ (Bq X6d (pv 6) mR (Ac _))
    (@Aj _ _ _ Gh)
    CT)
   (@K4 _ _ _ _ _ (CQ (Bq Di (Al Az (pv 6) Ad (λ_ _=>rfl)) Cg (Ac _))
    (@Aj _ _ _ (@Bd _ _ 3 _ _ _ _ g rfl (Or.inl rfl) (Aq Gu (pv 3) Ad) rfl (.inl rfl)))
    CT)
   (@Ak _ _ _ _ _ (CQ (Bq VH (pv 3) (Jw (v:=.int 6) rfl gL ⟨_,U⟩) (Ac _))
    (@Aj _ _ _ Gh)
    CT)
   (@Aj _ _ _ (Hg (Iu V2 V3 V5 Qe (pv 2) (Ab (pv 6) Ae)))))))))
  (@Aj _ _ _ (Ay (pv 2)))))),?_⟩
 try dsimp only[Bg]
 refine⟨Dz _,λlr j=>?_⟩;have S:=Ax j (.lst []);have u:upd H lr (.lst []) lr=some (.lst []):=Ao;generalize upd H lr (.lst [])=H0 at S u ⊢;refine⟨_,U,z,U,fz,ne,λl H1 Y N R=>?_⟩;have pf:=λp=>Y1w (y:=";") (w:=p) fz;have pl:(Txt.split z ";").length<=30002:=Cv qM (Nat.add_le_add_right fz 2);have J:l≠lr:=λe=>by rw[e,u]at Y;cases Y
 have e1:=N _ _ u;have o:=S.trans N;generalize Txt.split z ";"=ps at *;have xl:=Paired.length sp
 refine⟨l,_,U,Af.of R,Y5y (K:=K) (a:=l) (xs:=ps.map V.str) (λi σ H'=>Same H H'/\H' l=some (.lst (ps.map V.str))/\∃(d:U3) (I D A:Option V),H' lr=some (.lst (d.map V.ref))/\Fj H' d (xs.take i)/\σ=[some (.str z),some (.int c),some (.ref lr),some (.int (((xs.take i).filter Fg).length:Nat)),I,D,A])
  ⟨o,R,[],none,none,none,e1,.nil,U⟩ (λi σ H' _ e=>Af.of e.2.1) ?_ ?_⟩
 ·rintro i x σ H2 T n ⟨t,l2,d,I,D,A,C,R2,rfl⟩ hT;rw[Dw]at n;obtain⟨p,hp,rfl⟩:=GZ.mp n;have ip:i<ps.length:=(Fb.mp hp).1;obtain⟨x,n,W⟩:=Uz sp hp;have sT:=Ax hT (.tup [.int ((i+1:Nat):Int),.str p]);refine⟨T,_,U,Ah.of Ao,U,_,_,U,_,_,U,U,?_⟩;refine⟨_,U,_,U,p,c,x,U,pf p (Il hp),c1,c6,W,λq L S3 f=>?_⟩;have b:=sT.trans S3;refine⟨_,U,U,_,U,BX (λq=>by cases q) (λ_=>?_)⟩;have lk:=X3r xs i n;have s:=b _ _ C;have Z:=R2.same b;refine⟨λO H'=>H'=L/\O=[some (.str z),some (.int c),some (.ref lr),some (.int (((xs.take (i+1)).filter Fg).length:Nat)),some (.int ((i+1:Nat):Int)),some (.str p),some (.ref q)],?_,?_⟩
  ·rw[lk];cases x with
   | inl m =>
    have f:L q=some (Gy m.nm m.ns):=f;exact⟨_,U,q,_,_,_,U,U,Ah.of f,Mh _ _,U,_,U,BX (λe=>absurd (V.str.inj e) (j7 (Xc.fits W))) (λ_=>⟨U,U⟩)⟩
   | inr m =>
    obtain⟨r,f,_⟩:=f;exact⟨_,U,q,_,_,_,U,U,Ah.of f,U,U,_,U,BX (λ_=>⟨_,U,_,_,U,U,U,U⟩) (λe=>absurd rfl e)⟩
  rintro O H' ⟨rfl,rfl⟩;have l7:((xs.take (i+1)).filter Fg).length<=6:=Cv ((List.take_sublist (i+1) xs).filter Fg).length_le l6;refine⟨_,U,_,_,U,U,_,U,BX (λhb=>absurd hb (by omega)) (λhb=>?_)⟩;have rl:d.length<=30002:=by
   have:=Paired.length R2;rw[Oe]at this;omega
  refine⟨_,U,.inl ⟨U,_,Af.of s⟩,_,U,lr,_,_,U,U,s,(by rw[BJ];exact GC (show d.length<40000 by omega) (by decide)),?_⟩;refine⟨Et (t.trans b) j,(by rw[CK J];exact b _ _ l2),d++[q],_,_,_,(by rw[Ao,Dn];rfl),?_,U⟩;rw[Km,n];exact Fj.upd (Paired.snoc Z f) s
 ·rintro σ H2 ⟨t,l2,d,I,D,A,C,R2,rfl⟩;rw[BJ,xl,Lw]at R2;exact⟨_,U,kq lr d H2 t C R2⟩
theorem Y8b{aF:Y0}(gA:mg "FIGURES_OF_CELLS"=some (.ref aF))(hF:∀H,Ah K H aF (Mz.map V.str))(F:Aa K "read_play" (top 127) .none)(X:K.In h)(G:Ng h mg)(B:Bs mg)(cA:Ag P w K mg base k "words_of" ["part"] Uq)(dH:Ag P w K mg base k "read_parts" ["text","cells"] uo):Ag P w K mg base (k+1) "read_play" ["text"] uF:=by
 refine F.cal X G ["text","sides","figures","cells"] λa H vs Q E n h=>?_;obtain⟨z,c,xs,rfl,⟨fz,c1,c6,r,ep,W⟩,y⟩:=h
 refine⟨_,(@Ak _ _ _ _ _ (CQ (E_ (Dv (Cm J7 rfl B.isinstance Ik (Ab (pv 0) (Ab (I_ (v:=.ty "str") rfl B.str K8 rfl) Ae)))))
   (@Aj _ _ _ Gh)
   CT)
  (@Ak _ _ _ _ _ (@Bd _ _ 1 _ _ _ _ a rfl (Or.inl rfl) (Iu Kp PySem.F.slot_str_partition PySem.F.type_str_partition X3n (pv 0) (Ab Cg Ae)) rfl (.inl rfl))
  (@Ak _ _ _ _ _ (@Bd _ _ 2 _ _ _ _ a rfl (Or.inl rfl) (Av cA n rfl (Ab (Al Az (pv 1) Ad (λ_ _=>rfl)) Ae)) rfl (.inl rfl))
  (@Ak _ _ _ _ _ (CQ (PW.pt (Fv (Bq Di (Al Az (pv 1) Ad (λ_ _=>rfl)) Cg (Ac _)) (Fv (Bq Jh (Cm IW rfl B.len Fz (Ab (pv 2) Ae)) Ad (Ac _)) (Iw (Bq qp (Al DK (pv 2) Ad (λ_ _=>rfl)) (Jw (v:=.ref aF) rfl gA rfl) rfl)))))
   (@Aj _ _ _ Gh)
   CT)
  (@Ak _ _ _ _ _ (@Bd _ _ 3 _ _ _ _ a rfl (Or.inl rfl) (IV qm rfl B.int RZ (Ab (Al DK (pv 2) Ad (λ_ _=>rfl)) Ae)) rfl (.inl rfl))
  (@Aj _ _ _ (Ay (@Fw _ _ _ _ _ (Ab (pv 3) (Ab (Av dH n rfl (Ab (Al Az (pv 1) Ad (λ_ _=>rfl)) (Ab (pv 3) Ae))) Ae)))))))))),?_⟩
 try dsimp only[Bg]
 refine⟨_,U,_,_,_,true,U,CZ.str z,Uc K,_,U,Bc ?_⟩;have fp:=PyProof.Rows.fact_partition z (Str.ofString ":");have u:Ew (Txt.partition z ":").2.2:=Cv fp.2.2 fz;rw[ep]at u;obtain⟨C,I,it,l1⟩:=z_ c (by omega) c1;refine⟨_,U,U,z,_,U,U,by decide,X4c fz,λt A=>?_⟩;rw[ep];have o:=Ax A (.tup [.str (tS c),.str (Str.ofString ":"),.str r]);have i:upd H t (.tup [.str (tS c),.str (Str.ofString ":"),.str r]) t=_:=Ao;have M:Ah K (upd H t (.tup [.str (tS c),.str (Str.ofString ":"),.str r])) t [.str (tS c),.str (Str.ofString ":"),.str r]:=Ah.of Ao;generalize upd H t (.tup [.str (tS c),.str (Str.ofString ":"),.str r])=H1 at o M i ⊢;refine⟨_,U,t,_,_,_,U,U,M,U,_,U,(by rw[Ew,l1];decide),λl H2 _ j s=>?_⟩;have g:Ah K H2 t [.str (tS c),.str (Str.ofString ":"),.str r]:=Ah.of (j _ _ i);rw[I]at s;have f:Af K H2 l [V.str (tS c)]:=Af.of s;have d:=o.trans j;refine⟨_,U,t,_,_,_,U,U,g,U,U,_,U,BX (λe=>absurd (V.str.inj e) (by decide)) (λe=>?_)⟩;refine⟨_,U,l,_,U,.inl f,U,_,U,Ks (λq=>absurd rfl q) (λq=>?_)⟩;refine⟨_,U,l,_,_,_,U,U,f,U,aF,Mz.map V.str,U,.inr (hF _),U,U,_,U,Js (λm=>absurd (C.symm.trans m) (by decide)) (λm=>?_)⟩;refine⟨_,U,l,_,_,_,U,U,f,U,_,c,U,it,by omega,?_⟩;refine⟨_,U,_,U,t,_,_,_,U,U,g,U,_,U,_,c,xs,U,u,c1,c6,W,λx D J S3 b R=>?_⟩;exact⟨(show 2<=sizeLine by decide),λp hp=>y p x D _ ((d.trans S3).trans (Ax hp _)) Ao (Ax hp _ _ _ b) (R.same (Ax hp _))⟩
end
end Br
set_option maxHeartbeats 4000000
namespace L2
structure JL (P:U8) (w:W1) (K:U0) (mg:U4) (base:Heap) (k:Nat) (x:Str) (ps:W0) (sp:Sp) (dvs:List V):Prop where
 ex:∃f fd ds,Cd P w K mg base GP k f fd ps sp/\Binds K fd ps ds/\Vals dvs ds/\PySem.W.keepIn K (.ref f)=true/\mg x=some (.ref f)
variable{K:U0}{mg:U4}{base:Heap}{k:Nat}{x:Str}{ps:W0}
theorem JL.mono{P:U8}{w:W1}{j:Nat}{sp:Sp}{dvs:List V}(c:JL P w K mg base j x ps sp dvs)(h:j<=k):JL P w K mg base k x ps sp dvs :=
 let ⟨f,fd,ds,F,b,v,kp,m⟩:=c.ex
 ⟨f,fd,ds,F.mono h,b,v,kp,m⟩
section
variable {X:Cx}{k:Nat}{x:Str}{ps ks:W0}{sp:Sp}{p pos:Pos}{e:Expr}{es:List Expr}{t tk:TA}{dvs:List V}{gV:List V->List V->List V}{kws:List Keyword}
theorem tG(c:JL X.prog X.w X.K X.mg X.base k x ps sp dvs)(hr:Bl k X.A)(hg:Gl X x)(ha:PA X (e::es) t)(hdb:(x == ("__debug__":Str))=false:=by decide)
  (he:starEach (e::es) X.env=(false,eval e X.env)::starEach es X.env:=by rfl) (hpl:(backTo pos (starEach es X.env)).any (·.1)=false:=by rfl):PE X (.Call (.Name x p) (e::es) [] pos) (JN sp dvs E0 t):=by
 obtain⟨f,fd,ds,F,b,v,a,m⟩:=c.ex;exact tH F hr hg m a b v Ga ha hdb he hpl
end
theorem Y1y(xs:List V)(f:V->V):(List.range xs.length).map (λi=>f (xs.getD i .non))=xs.map f:=by
 apply List.ext_getElem
 ·simp
 ·intro i h1 h2;simp at h1;simp[h1]
theorem sU{a:Y0}{xs:List V}{te:TE}{fr:St}{H1:Hp}{acc:Y0}{Q:VK}(f:V->V)(hl:Ah K H1 a xs)(hn:xs.length<=sizeLine)(hacc:H1 acc=none)(hs:∀v H (N:V->Hp->Prop),v∈xs->Same H1 H->N (f v) H->te (some v::fr) H N)
  (hd:∀H2,Same H1 H2->H2 acc=some (.lst (xs.map f))->Q (.ref acc) H2):Hq (N6 K a) (Bf 0) te (none::fr) H1 acc Q:=by
 refine sJ (n:=xs.length) (val:=λi=>xs.getD i .non) (λi=>f (xs.getD i .non)) hn hacc (λi H hi s=>?_) (λH s=>⟨_,s.tup hl,by simp⟩) (λi H N hi s b=>hs _ H N (by simp[hi]) s b) (λH2 s h=>hd H2 s (by rw[h,Y1y]));have e:xs[i]?=some (xs.getD i .non):=by simp[hi]
 refine⟨⟨_,_,s.tup hl,e⟩,λx H' y=>⟨y.1,?_⟩⟩;have:=y.2 _ (s.tup hl);rw[e]at this;exact(Option.some.inj this).symm
theorem Aa.all{P:U8}{w:W1}{st:Stmt}{dV:W2}{N:W0}{sp:Sp}(F:Aa K x st dV){h:Heap}(X:K.In h)(G:Ng h mg)(S:Ar N ps (Bh st))(len:∀vs H Q E,sp vs H Q E->vs.length=ps.length)
  (hbody:∀(f:Y0) (a:W2) (A:W7) (outer:List Env) (s:U7) (H:Hp) (vs:List V) (Q:VK) (E:XK),Bl k (A.deeper (envOfC x (Bh st) s.heap.objs.size f a))->sp vs H Q E ->
   ∃t,GF (Fi GP P w K mg base N x (Bh st) f a A outer s H E).nox (Cj st) t/\t { nx:=λ_ H'=>Q .non H',rt:=Q} (start N vs) H):
  ∃(f:Y0) (kV b c:W2) (d:W5) (a ct:W2),Cd P w K mg base GP (k+1) f (PySem.W.fnOf x x (Cr st) (Cj st) (Bh st) dV kV b c d a ct) ps sp/\PySem.W.keepIn K (.ref f)=true/\mg x=some (.ref f):=by
 obtain⟨f,o,n,kV,b,c,d,a,ct,j,m,e,i,ns⟩:=F.ex;refine⟨f,kV,b,c,d,a,ct,Wu m e S len λA outer s H vs Q E l g=>?_,i,Ii X G ns⟩;obtain⟨t,h,q⟩:=hbody f a A outer s H vs Q E l g;exact⟨t,h.nox,q⟩
end L2
namespace Pt
open L2
section
variable {K:U0}{H:Hp}
end
end Pt
namespace L2
theorem _Y{K:U0}{a:Y0}{xs:List V}{g:TG}{te:TE}{fr:St}{H1:Hp}{acc:Y0}{Q:VK}(Pv:Nat->List V->Hp->Prop)(hn:xs.length<=sizeLine)(h0:Pv 0 [] (upd H1 acc (.lst [])))
  (hl:∀i ys H,Pv i ys H->Af K H a xs)
  (hs:∀i x ys H (N:St->V->Hp->Prop) (w1 w2:Option V),xs[i]?=some x->ys.length=i->Pv i ys H->(∀v1 v2 y b,b acc=some (.lst ys)->Pv (i+1) (ys++[y]) (upd b acc (.lst (ys++[y])))->N (v1::v2::fr) y b)->g x (w1::w2::fr) H λc h=>te c h (N c))
  (hd:∀ys H,ys.length=xs.length->Pv xs.length ys H->Q (.ref acc) H):Hq (J9 K a) g te (none::none::fr) H1 acc Q:=by
 refine⟨λi m ys f H2=>m=xs.length-i/\i<=xs.length/\ys.length=i/\(∃v1 v2,f=v1::v2::fr)/\Pv i ys H2,⟨xs.length,by simp,Dz _,U,⟨_,_,U⟩,h0⟩,?_⟩;rintro i m ys f H2 ⟨rfl,hi,d,⟨v1,v2,rfl⟩,p⟩;by_cases hlt:i<xs.length
 ·have j:xs[i]?=some xs[i]:=by simp[hlt]
  refine .inr ⟨⟨xs,_,hl i ys H2 p,j⟩,λx o l=>?_⟩;obtain⟨rfl,q⟩:=l;exact hs i x ys _ (λc y b=>b acc=some (.lst ys)/\ys.length<sizeLine/\∃m',m'<xs.length-i/\_) _ _ (q xs (hl i ys _ p)) d p λs r y b n k=>⟨n,by omega,xs.length-(i+1),by omega,U,hlt,by simp[d],⟨_,_,U⟩,k⟩
 ·have e:i=xs.length:=by omega
  subst e;exact .inl ⟨⟨xs,hl _ ys H2 p,Bj _⟩,hd ys H2 d p⟩
end L2
namespace L2
section
variable {X:Cx}{scope:Scope}{Nc:W0}{ex:U3}{pins:U1}{s:U7}{H:Hp}
theorem Y3v{x1 x2 x3:Str}{k:Nat}{p1 p2 p3 pos:Pos}(hc:(Aw X scope Nc ex pins s H).calm=true)(hN:Nc.Nodup)(h1:Nc[0]?=some x1)(h2:Nc[1]?=some x2)(h3:Nc[2]?=some x3)
  (l1:(Aw X scope Nc ex pins s H).env.scope.names.lookup x1=some .local) (l2:(Aw X scope Nc ex pins s H).env.scope.names.lookup x2=some .local) (l3:(Aw X scope Nc ex pins s H).env.scope.names.lookup x3=some .local):
  PG (Aw X scope Nc ex pins s H) (.Tuple [.Name x1 p1,.Name x2 p2,.Name x3 p3] k pos) (Ot X.K 3 (Ge (Bf 0) (Ge (Bf 1) (Ge (Bf 2) Ou)))):=
 O8 (X:=Aw X scope Nc ex pins s H) hc (IK (Ck (i:=0) hN h1 (.inl l1) (.inr l1)) (IK (Ck (i:=1) hN h2 (.inl l2) (.inr l2)) (IK (Ck (i:=2) hN h3 (.inl l3) (.inr l3)) PB)))
end
theorem _Z{K:U0}{a:Y0}{xs:List V}{g:TG}{te:TE}{fr:St}{H1:Hp}{acc:Y0}{Q:VK}(Pv:Nat->List V->Hp->Prop)(hn:xs.length<=sizeLine)(h0:Pv 0 [] (upd H1 acc (.lst [])))
  (hl:∀i ys H,Pv i ys H->Af K H a xs)
  (hs:∀i x ys H (N:St->V->Hp->Prop) (w1 w2 w3:Option V),xs[i]?=some x->ys.length=i->Pv i ys H->(∀v1 v2 c y b,b acc=some (.lst ys)->Pv (i+1) (ys++[y]) (upd b acc (.lst (ys++[y])))->N (v1::v2::c::fr) y b)->g x (w1::w2::w3::fr) H λd j=>te d j (N d))
  (hd:∀ys H,ys.length=xs.length->Pv xs.length ys H->Q (.ref acc) H):Hq (J9 K a) g te (none::none::none::fr) H1 acc Q:=by
 refine⟨λi m ys h H2=>m=xs.length-i/\i<=xs.length/\ys.length=i/\(∃v1 v2 c,h=v1::v2::c::fr)/\Pv i ys H2,⟨xs.length,by simp,Dz _,U,⟨_,_,_,U⟩,h0⟩,?_⟩;rintro i m ys h H2 ⟨rfl,hi,f,⟨v1,v2,c,rfl⟩,p⟩;by_cases hlt:i<xs.length
 ·have k:xs[i]?=some xs[i]:=by simp[hlt]
  refine .inr ⟨⟨xs,_,hl i ys H2 p,k⟩,λx r n=>?_⟩;obtain⟨rfl,q⟩:=n;exact hs i x ys _ (λd y b=>b acc=some (.lst ys)/\ys.length<sizeLine/\∃m',m'<xs.length-i/\_) _ _ _ (q xs (hl i ys _ p)) f p λu s t y b o l=>⟨o,by omega,xs.length-(i+1),by omega,U,hlt,by simp[f],⟨_,_,_,U⟩,l⟩
 ·have e:i=xs.length:=by omega
  subst e;exact .inl ⟨⟨xs,hl _ ys H2 p,Bj _⟩,hd ys H2 f p⟩
theorem X2e{X:Cx}{scope:Scope}{Nc:W0}{ex:U3}{pins:U1}{s:U7}{H:Hp}{e:Expr}{f:Str}{pos:Pos}{ta:TE}(he:PE (Aw X scope Nc ex pins s H) e ta)(hb:attributeBase e f (Aw X scope Nc ex pins s H).env (eval e (Aw X scope Nc ex pins s H).env)=eval e (Aw X scope Nc ex pins s H).env):PE (Aw X scope Nc ex pins s H) (.Attribute e f pos) (RD X.K ta f):=La he hb
end L2
namespace Br
open L2 Am Pc Ba Mw
open Ai (top Bs Bx Gm Gy Rw G6 Steps st K1)
open CP (Io bt GK Hc off Gs Way oV Qi Wz QX WY Uy)
open Ci (T3)
open Dc (pq)
noncomputable def outs (c w:Nat):List Nat:=(List.range c).map λk=>bt w k
noncomputable def V9 (o:W3):Str:=Txt.join (Str.ofString "") (o.map λi:Nat=>tS i)
noncomputable def LK (o:W3):Str:=V9 o++Str.ofString " 1 0 1"
theorem j9:∀c,c<4->1<=c->∀w,w<8->JoinOk (Str.ofString "") ((outs c w).map λi:Nat=>tS i)=true/\decide (V.str (V9 (outs c w))=V.str (Str.ofString ""))=false/\(V9 (outs c w)).length<=100/\∀i∈outs c w,i<2:=by decide +kernel
def uJ:Sp:=λvs H Q _=>∃n:Nat,vs=[.int n]/\n<2/\Q (.str (tS n)) H
def KQ (K:U0):Sp:=λvs H Q _=>∃p,vs=[.ref p]/\Ah K H p [.int 1,.int 0,.int 1]/\∀H',Same H H'->Q (.str (Str.ofString "1 0 1")) H'
def uI (K:U0):Sp:=λvs H Q _=>∃(p s:Y0) (c w:Nat),vs=[.ref p,.ref s]/\1<=c/\c<4/\w<8/\Ah K H p (oV (outs c w))/\Ah K H s [.int 1,.int 0,.int 1]/\∀H',Same H H'->Q (.str (LK (outs c w))) H'
structure Back (z:Str) (c w:Nat) (ms:List Gm):Prop where
 pl:Pl z c (ms.map Sum.inl++(List.range c).map Sum.inr)
 c3:c<=3
 wc:w<2^c
 ok:∀m∈ms,m.Ok c
 len:ms.length<=60
 go:∀g,Steps c ms (st 0) g->∀i,i<2^c->g i=st w i
def Ih (K:U0)(C:Y0):Sp:=λvs H Q _=>∃(z:Str) (c w:Nat) (ms:List Gm),vs=[.str z,.bl false]/\Back z c w ms /\
 ∀(H':Hp) (l t ao s a dx lb:Y0) (ps:U3),Same H H'->H' l=some (.lst [.ref t])->H' t=some (.tup [.ref ao,.ref s,.ref a])->Ah K H' ao (oV (outs c w))->Ah K H' s [.int 1,.int 0,.int 1]->H' a=some (GK C dx c s lb)->Bx K H' lb ps (st w) c 100 40->Q (.ref l) H'
def Ia:Sp:=λvs H Q _=>∃(z:Str) (c w:Nat) (ms:List Gm),vs=[.str z,.bl false]/\Back z c w ms/\∀H',Same H H'->Q (.str (LK (outs c w))) H'
structure Ends (P:U8) (w:W1) (K:U0) (mg:U4) (base:Heap) (k:Nat) (C:Y0):Prop where
 c:Ag P w K mg base k "ends" ["text","by_signs"] (Ih K C)
 d1:JL P w K mg base k "ends" ["text","by_signs"] (Ih K C) [.bl false]
variable{K:U0}{C:Y0}
theorem Ends.mono{P:U8}{w:W1}{mg:U4}{base:Heap}{j k:Nat}(e:Ends P w K mg base j C)(h:j<=k):Ends P w K mg base k C:=⟨e.c.mono h,e.d1.mono h⟩
variable{a:Y0}
theorem uf{H1 Hi H':Hp}(s:Same H1 Hi)(n:H1 a=none)(t:Same (off Hi a) H'):Same H1 H':=λb u h=>t _ _ (by rw[Gs (JF h n)];exact s _ _ h)
variable{H:Hp}{lr:Y0}{xs:List V}
theorem uK{p:Y0}{as bs:List V}(h:Ah K H p xs)(e:H lr=some (.lst as)):Ah K (upd H lr (.lst bs)) p xs:=by
 rcases h with (q | ⟨u,q⟩) | q
 ·exact .inl (.inl (by rw[CK (Gg q e (by intro z;cases z))];exact q))
 ·exact .inl (.inr ⟨u,by rw[CK (Gg q e (by intro z;cases z))];exact q⟩)
 ·exact .inr q
variable{f:Nat->A5}{c:Nat}
theorem X1k{wl t ao dx s l:Y0}{ps:U3}{o:W3}{ys:List V}(W:Way K C H wl t ao a dx s l ps o f c)(e:H lr=some (.lst xs))(n1:wl≠lr)(n2:l≠lr):Way K C (upd H lr (.lst ys)) wl t ao a dx s l ps o f c :=
 ⟨by rw[CK n1];exact W.wl,by rw[CK (Gg W.t e (by intro z;cases z))];exact W.t,uK W.ao e,by rw[CK (Gg W.a e (by intro z;cases z))];exact W.a,Wz W.bd e n2⟩
theorem Y6w{H':Hp}{wl t ao dx s l:Y0}{ps:U3}{o:W3}(W:Way K C H wl t ao a dx s l ps o f c)(S:Same H H'):Way K C H' wl t ao a dx s l ps o f c :=
 ⟨S _ _ W.wl,S _ _ W.t,S.tup W.ao,S _ _ W.a,W.bd.same S⟩
section
variable {P:U8}{w:W1}{K:U0}{mg:U4}{base:Heap}{k:Nat}{h:Heap}{C aS:Y0}
theorem Y7y(F:Aa K "show_whole" (top 19) .none)(X:K.In h)(G:Ng h mg)(B:Bs mg):Ag P w K mg base (k+1) "show_whole" ["number"] uJ:=by
 refine F.cal X G ["number","piece","rest","shown"] λa H vs Q E j h=>?_;obtain⟨n,rfl,f,q⟩:=h;have d:(10:Int)^(64:Int).toNat=((10^64:Nat):Int):=by decide +kernel
 have g:2<=10^64:=by decide +kernel
 have e:(n:Int).natAbs.log2<1920:=by
  have:n=0\/n=1:=by omega
  rcases this with rfl | rfl<;>decide +kernel
 have b:(Str.ofString (toString (n:Int))).length+(Str.ofString "").length<=sizeLine/\Str.ofString (toString (n:Int))++Str.ofString ""=tS n:=by
  have:n=0\/n=1:=by omega
  rcases this with rfl | rfl<;>decide +kernel
 refine⟨_,(@Ak _ _ _ _ _ (@Bd _ _ 1 _ _ _ _ a rfl (Or.inl rfl) (Aq wk Ad Ad) rfl (.inl rfl))
  (@Ak _ _ _ _ _ (@Bd _ _ 2 _ _ _ _ a rfl (Or.inl rfl) (Cm Wc rfl B.abs boot_abs (Ab (pv 0) Ae)) rfl (.inl rfl))
  (@Ak _ _ _ _ _ (@Bd _ _ 3 _ _ _ _ a rfl (Or.inl rfl) Cg rfl (.inl rfl))
  (@Ak _ _ _ _ _ (lH PassesOwn.never (Bq VG (pv 2) (pv 1) (Ac _))
   (@Ak _ _ _ _ _ (@Bd _ _ 3 _ _ _ _ a rfl (Or.inl rfl) (Aq J6 (Iu Kp PySem.F.slot_str_zfill PySem.F.type_str_zfill _z (IV PN rfl B.str K8 (Ab (Aq Jj (pv 2) (pv 1)) Ae)) (Ab Ad Ae)) (pv 3)) rfl (.inl rfl))
   (@Aj _ _ _ (@Bd _ _ 2 _ _ _ _ a rfl (Or.inl rfl) (Aq Uw (pv 2) (pv 1)) rfl (.inl rfl)))))
  (@Ak _ _ _ _ _ (@Bd _ _ 3 _ _ _ _ a rfl (Or.inl rfl) (Aq J6 (IV PN rfl B.str K8 (Ab (pv 2) Ae)) (pv 3)) rfl (.inl rfl))
  (@Aj _ _ _ (Ay (Lf (Bq Nk (pv 0) Ad (Ac _)) (Aq J6 Cg (pv 3)) (pv 3))))))))),?_⟩
 try dsimp only[Bg]
 refine⟨_,_,U,U,⟨by decide,by decide,by decide⟩,_,U,_,U,λm σ H'=>H'=H/\σ=[some (.int n),some (.int ((10:Int)^(64:Int).toNat)),some (.int (n:Int)),some (.str "")],⟨0,U,?_⟩,?_⟩
 ·show _=_;have:(if (n:Int)<0 then -(n:Int) else n)=n:=if_neg (by omega);rw[this];rfl
 rintro r σ H' ⟨rfl,rfl⟩;refine⟨_,U,_,U,_,_,U,U,_,U,BX (λc=>?_) (λc=>?_)⟩
 ·rw[d]at c;have c':10^64<=n:=Int.ofNat_le.mp c;omega
 ·refine⟨_,U,_,U,e,_,U,_,_,U,U,b.1,?_⟩;refine⟨_,U,_,_,U,U,_,U,BX (λneg=>absurd neg (by omega)) (λi=>?_)⟩;refine⟨_,U,?_⟩;show Q (.str (Str.ofString (toString (n:Int))++Str.ofString "")) H';rw[b.2];exact q
theorem X2t(F:Aa K "show_share" (top 18) .none)(X:K.In h)(G:Ng h mg)(dN:Ag P w K mg base k "show_whole" ["number"] uJ):Ag P w K mg base (k+1) "show_share" ["one"] (KQ K):=by
 refine F.cal X G ["one"] λf H vs Q E e h=>?_;obtain⟨p,rfl,hp,q⟩:=h;refine⟨_,(@Aj _ _ _ (Ay (Iu Kp QD QF QV Cg (Ab (GD rfl (BZ.of (Nc:=["part"]) (mp:=[none]) (by kernel_rfl)) (Mj (pv 0)) (λ_ _ _ _=>(Ck (i:=0) (show (["part"]:W0).Nodup by decide +kernel) rfl (Or.inl rfl))) (λ_ _ _ _=>(Av dN e rfl (Ab (pv 0) Ae)))) Ae)))),?_⟩;try dsimp only[Bg]
 refine⟨U,_,U,p,U,⟨_,hp⟩,λacc a=>?_⟩;refine sU (xs:=[.int 1,.int 0,.int 1]) (fr:=[]) (λv=>match v with | .int i=>.str (tS i) | v=>v) hp (show 3<=sizeLine by decide) a (λv H2 N c d b=>?_) (λH2 d h2=>?_)
 ·simp at c;rcases c with rfl | rfl | rfl
  ·exact⟨_,U,1,U,by decide,b⟩
  ·exact⟨_,U,0,U,by decide,b⟩
  ·exact⟨_,U,1,U,by decide,b⟩
 exact⟨_,acc,[tS 1,tS 0,tS 1],U,U,Af.of h2,(by decide +kernel),by rw[show Txt.join (Str.ofString " ") [tS 1,tS 0,tS 1]=Str.ofString "1 0 1" by decide +kernel];exact q H2 d⟩
theorem Y7z(F:Aa K "show_end" (top 138) .none)(X:K.In h)(G:Ng h mg)(B:Bs mg)(dM:Ag P w K mg base k "show_share" ["one"] (KQ K)):Ag P w K mg base (k+1) "show_end" ["outs","part"] (uI K):=by
 refine F.cal X G ["outs","part","figures"] λf H vs Q E n h=>?_;obtain⟨p,s',c,w,rfl,c1,g,w8,hp,o,q⟩:=h;obtain⟨d,m,l1,o2⟩:=j9 c g c1 w w8
 refine⟨_,(@Ak _ _ _ _ _ (@Bd _ _ 2 _ _ _ _ f rfl (Or.inl rfl) (Iu Kp QD QF QV Cg (Ab (GD rfl (BZ.of (Nc:=["out"]) (mp:=[none]) (by kernel_rfl)) (Mj (pv 0)) (λ_ _ _ _=>(Ck (i:=0) (show (["out"]:W0).Nodup by decide +kernel) rfl (Or.inl rfl))) (λ_ _ _ _=>(IV PN rfl B.str K8 (Ab (pv 0) Ae)))) Ae)) rfl (.inl rfl))
  (@Aj _ _ _ (Ay (Aq J6 (Aq J6 (Lf (Bq Jh (pv 2) Cg (Ac _)) (pv 2) Cg) Cg) (Av dM n rfl (Ab (pv 1) Ae)))))),?_⟩
 try dsimp only[Bg]
 refine⟨U,_,U,p,U,⟨_,hp⟩,λacc a=>?_⟩;have ol:(oV (outs c w)).length<=3:=by rw[BJ];unfold outs;rw[BJ,Kl];omega
 refine sU (xs:=oV (outs c w)) (fr:=[]) (λv=>match v with | .int i=>.str (tS i) | v=>v) hp (Cv ol (by decide)) a (λv H2 N e b r=>?_) (λH2 b h2=>?_)
 ·obtain⟨i,hi,rfl⟩:=Hu.mp e;have s:=o2 i hi;refine⟨_,U,_,U,?_,r⟩;have:i=0\/i=1:=by omega
  rcases this with rfl | rfl<;>decide +kernel
 have l:(oV (outs c w)).map (λv=>match v with | .int i=>V.str (tS i) | v=>v)=((outs c w).map λi:Nat=>tS i).map V.str:=by rw[Jq,Jq];rfl
 rw[l]at h2;refine⟨_,acc,_,U,U,Af.of h2,d,?_⟩;refine⟨_,U,U,_,U,?_⟩;have hb:(!decide (V.str (Txt.join (Str.ofString "") ((outs c w).map λi:Nat=>tS i))=V.str (Str.ofString "")))=true:=by rw[show decide (V.str (Txt.join (Str.ofString "") ((outs c w).map λi:Nat=>tS i))=V.str (Str.ofString ""))=false from m];rfl
 rw[hb];have l2:(Txt.join (Str.ofString "") ((outs c w).map λi:Nat=>tS i)).length<=100:=l1;have t:(Str.ofString " ").length=1/\(Str.ofString "1 0 1").length=5:=by decide +kernel
 refine DQ ⟨_,U,_,_,U,U,small (by omega),_,U,s',U,b.tup o,λj S3=>⟨_,_,U,U,small (by rw[Dc.X4i];omega),?_⟩⟩;rw[pq,show Str.ofString " "++Str.ofString "1 0 1"=Str.ofString " 1 0 1" by decide +kernel];exact q j (b.trans S3)
end
end Br
set_option maxHeartbeats 1000000
namespace Br
open L2 Am Pc Ba Mw
open Ai (top Bs Bx Gm Gy Rw G6 Steps st K1)
open CP (Io bt GK Hc off Gs Way oV Qi Wz QX WY Uy)
open Ci (T3)
section
variable {P:U8}{w:W1}{K:U0}{mg:U4}{base:Heap}{k:Nat}{h:Heap}{C aS:Y0}
theorem JX:Ar ["text","by_signs","play","ways","row","part"] ["text","by_signs"] (Bh (top 132)):=fS
theorem X3f{D:Y0}{oc:W2}{od:W5}{n:Nat}{sl:W4}(l:K.lookup D=some ⟨oc,od,.seq #[.bool false] n,sl⟩)(kc:Hc K C)(hS:∀H,Ah K H aS [.int 1,.int 0,.int 1])(F:Aa K "ends" (top 132) (.ref D))(X:K.In h)(G:Ng h mg)(dY:Ag P w K mg base (k+1) "read_play" ["text"] uF)
  (cF:JH P w K mg base k "AmountHolder" C ["self","cells","word"] (QX K C aS) [.int 0]) (dC:Ag P w K mg base (k+1) "ways_behind" ["ways","row","mark"] (WY K C)) (cR:Ag P w K mg base (k+1) "take_all" ["ways","row"] (Uy K C)):Ends P w K mg base (k+2) C:=by
 have nd:=JX.nd
 obtain⟨f,kV,c7,pm,an,b5,ct,FO,kp,m⟩:=F.all (P:=P) (w:=w) (base:=base) (k:=k+1) (sp:=Ih K C) (ps:=["text","by_signs"]) X G JX (λvs H Q E h=>by obtain⟨z,c,w,ms,rfl,_⟩:=h;rfl) (λf b5 A outer s H vs Q E hr h=>by
  obtain⟨z,c,w,ms,rfl,⟨PL,c3,wc,b6,ml,go⟩,kq⟩:=h
  have c1:=PL.c1
  have nl:∀j,(ms.map Sum.inl++(List.range c).map Sum.inr:List Ho)[j]?=if j<ms.length then ms[j]?.map Sum.inl else ((List.range c)[j-ms.length]?).map Sum.inr:=λj=>by
   rw[List.getElem?_append,BJ]
   split
   ·rw[Dw]
   ·rw[Dw]
  have xl:(ms.map Sum.inl++(List.range c).map Sum.inr:List Ho).length=ms.length+c:=by simp
  refine⟨_,(@Ak _ _ _ _ _ (@Bd _ _ 2 _ _ _ _ nd rfl (Or.inl rfl) (Av dY hr rfl (Ab (pv 0) Ae)) rfl (.inl rfl))
  (@K4 _ _ _ _ _ (CQ (Dv (pv 1))
   Y3r
   CT)
  (@Ak _ _ _ _ _ (@Bd _ _ 3 _ _ _ _ nd rfl (Or.inl rfl) (@Gv _ _ _ _ (Ab (@Fw _ _ _ _ _ (Ab (@Fw _ _ _ _ _ Ae) (Ab (Lf (Dv (pv 1)) Y7l (vI cF hr rfl (Ab (Al Az (pv 2) Ad (λ_ _=>rfl)) Ae))) Ae))) Ae)) rfl (.inl rfl))
  (@Ak _ _ _ _ _ (@Bd _ _ 4 _ _ _ _ nd rfl (Or.inl rfl) (@Gv _ _ _ _ Ae) rfl (.inl rfl))
  (@Ak _ _ _ _ _ (Jv PassesOwn.never rfl (JC (Al Az (pv 2) Ad (λ_ _=>rfl))) (Ck (i:=5) nd rfl (Or.inl rfl))
   (@Aj _ _ _ (CQ (Bq Di (Al Az (pv 5) Ad (λ_ _=>rfl)) Cg (Ac _))
    (@Ak _ _ _ _ _ (@Bd _ _ 3 _ _ _ _ nd rfl (Or.inl rfl) (Av dC hr rfl (Ab (pv 3) (Ab (pv 4) (Ab (Al Az (pv 5) Ad (λ_ _=>rfl)) Ae)))) rfl (.inl rfl))
    (@Aj _ _ _ (@Bd _ _ 4 _ _ _ _ nd rfl (Or.inl rfl) (@Gv _ _ _ _ Ae) rfl (.inl rfl))))
    (@Aj _ _ _ (Hg (Iu V2 V3 V5 Qe (pv 4) (Ab (pv 5) Ae)))))))
  (@Ak _ _ _ _ _ (Hg (Av cR hr rfl (Ab (pv 3) (Ab (pv 4) Ae))))
  (@Aj _ _ _ (Ay (GD rfl (BZ.of (Nc:=["outs","holder"]) (mp:=[none,none]) (by kernel_rfl)) (JC (pv 3)) (λ_ _ _ _=>(Qd rfl (show (["outs","holder"]:W0).Nodup by decide +kernel) rfl rfl rfl rfl)) (λ_ _ _ _=>(@Fw _ _ _ _ _ (Ab (pv 0) (Ab (X2e (pv 1) rfl) (Ab (pv 1) Ae)))))))))))))),?_⟩
  refine⟨_,U,z,c,_,U,PL,λp lp rp H1 S1 hp a4 R=>?_⟩
  have Mp:Ah K H1 p [.int c,.ref lp]:=Ah.of hp
  refine⟨λσ' H'=>H'=H1/\σ'=[some (.str z),some (.bl false),some (.ref p),none,none,none],?_,?_⟩
  ·exact⟨_,U,false,U,Bc ⟨U,U⟩⟩
  rintro σ' O ⟨rfl,rfl⟩
  refine⟨show 0<=sizeLine by decide,λJ b7=>?_⟩
  have s2:=Ax b7 (.tup [])
  have e2:upd O J (.tup []) J=some (.tup []):=Ao
  generalize upd O J (.tup [])=H2 at s2 e2 ⊢
  refine⟨_,rfl,false,rfl,Bc ?_⟩
  refine⟨_,rfl,p,_,_,_,rfl,rfl,s2.tup Mp,rfl,?_⟩
  refine λa dx ha a6 ne=>?_
  refine⟨a,dx,c,0,U,Ao,c1,by omega,Kh c,λH3 lb ps S3 a8 e3 B3=>⟨U,?_⟩⟩
  have Z:Same H2 H3:=λb u h=>S3 _ _ (by rw[Gs (JF h ha),CK (JF h ha),CK (JF h a6)];exact h)
  refine⟨(show 2<=sizeLine by decide),λt ht=>⟨(show 1<=sizeLine by decide),λwl T=>⟨Dz _,λlr o=>?_⟩⟩⟩
  have s4:=Ax ht (.tup [.ref J,.ref a])
  have e4:upd H3 t (.tup [.ref J,.ref a]) t=some (.tup [.ref J,.ref a]):=Ao
  generalize upd H3 t (.tup [.ref J,.ref a])=H4 at s4 e4 T o ⊢
  have s5:=Ax T (.lst [.ref t])
  have e5:upd H4 wl (.lst [.ref t]) wl=some (.lst [.ref t]):=Ao
  generalize upd H4 wl (.lst [.ref t])=H5 at s5 e5 o ⊢
  have s6:=Ax o (.lst [])
  have e6:upd H5 lr (.lst []) lr=some (.lst []):=Ao
  have n1:wl≠lr:=λz=>by rw[z,o]at e5;cases e5
  have n2:lb≠lr:=λz=>by have:=s5 _ _ (s4 _ _ B3.lst);rw[z,o]at this;cases this
  generalize upd H5 lr (.lst [])=H6 at s6 e6 ⊢
  have I:=s4.trans (s5.trans s6)
  have Y:=Z.trans I
  have SB:=s2.trans Y
  have W6:Way K C H6 wl t J a dx aS lb ps ((List.range (0-ms.length)).map λk=>bt w k) (st 0) c:=by
   rw[Nat.zero_sub]
   exact⟨s6 _ _ e5,(s5.trans s6) _ _ e4,Ah.of (Y _ _ e2),I _ _ e3,B3.same I⟩
  have S:O a=none:=s2.free ha
  have nr:O lr=none:=(s2.trans (Z.trans (s4.trans s5))).free o
  clear s2 e2 ha a6 ne S3 a8 e3 B3 Z ht T o s4 e4 s5 e5 s6 I Y
  have R:Fj O rp _:=R
  refine⟨_,U,p,_,_,_,U,U,SB.tup Mp,U,lp,U,⟨_,Af.of (SB _ _ a4)⟩,Ur (K:=K) (a:=lp) (xs:=rp.map V.ref) (λi σ H'=>Same O H'/\∃wl t ao a dx s l lr ps rq f d v5,σ=[some (.str z),some (.bl false),some (.ref p),some (.ref wl),some (.ref lr),v5]/\O a=none/\O lr=none/\Way K C H' wl t ao a dx s l ps ((List.range (i-ms.length)).map λk=>bt w k) f c/\Ah K H' s [.int 1,.int 0,.int 1]/\Rw H' lr rq d c/\wl≠lr/\l≠lr/\(∀g,Steps c (d++ms.drop i) f g->∀j,j<2^c->g j=st w j)/\d.length<=i)
   ⟨SB,wl,t,J,a,dx,aS,lb,lr,ps,[],st 0,[],none,U,S,nr,W6,hS _,⟨e6,.nil,(λm hm=>by cases hm),Dz _⟩,n1,n2,(by rw[List.drop_zero];exact go),Dz _⟩ (λi σ H' _ e=>Af.of (e.1 _ _ a4)) ?_ ?_⟩
  ·clear W6 S nr SB n1 n2 e6
   rintro i x σ H7 hx ⟨S7,wl,t,ao,a,dx,s,l,lr,ps,rq,f,d,v5,rfl,S,nr,W,hs,B,n1,n2,hg,a7⟩
   rw[Dw]at hx
   obtain⟨q,hq,rfl⟩:=GZ.mp hx
   obtain⟨x,y,hA⟩:=Uz R hq
   have hA:=Eu.same hA S7
   rw[nl]at y
   by_cases ci:i<ms.length
   ·rw[if_pos ci]at y
    obtain⟨m,hm,rfl⟩:=GZ.mp y
    have hA:H7 q=some (Gy m.nm m.ns):=hA
    have mk:=b6 m (Il hm)
    refine⟨_,U,q,_,_,_,U,U,Ah.of hA,Mh _ _,U,_,U,BX (λe=>absurd (V.str.inj e) (j7 (Ai.Gm.fits mk))) (λ_=>?_)⟩
    have rl:=G6.length B.mvs
    refine⟨_,U,.inl ⟨U,_,Af.of B.lst⟩,_,U,lr,_,_,U,U,B.lst,small (by rw[BJ];omega),?_⟩
    refine⟨Et S7 nr,wl,t,ao,a,dx,s,l,lr,ps,rq++[q],f,d++[m],_,U,S,nr,?_,uK hs B.lst,⟨by rw[Ao,Dn];rfl,(B.mvs.snoc hA).upd B.lst,?_,by rw[G3,Yv];omega⟩,n1,n2,?_,by rw[G3,Yv];omega⟩
    ·have:=X1k (ys:=rq.map V.ref++[V.ref q]) W B.lst n1 n2
     rw[show i+1-ms.length=i-ms.length by omega]
     exact this
    ·intro m' c4
     rcases K9.mp c4 with h | h
     ·exact B.ok m' h
     ·rw[Ko.mp h];exact mk
    ·intro g sg
     refine hg g ?_
     rw[Yi]at sg
     rw[show ms.drop i=[m]++ms.drop (i+1) from ?_]
     ·exact sg
     ·obtain⟨hi,rfl⟩:=Fb.mp hm
      rw[List.drop_eq_getElem_cons hi]
      rfl
   ·rw[if_neg ci]at y
    obtain⟨k',hk,rfl⟩:=GZ.mp y
    obtain⟨hi,ek⟩:=Fb.mp hk
    rw[Kl]at hi
    rw[List.getElem_range]at ek
    obtain⟨r,a3,c5⟩:=hA
    have dn:∀j,ms.length<=j->ms.drop j=[]:=λj h=>Yy h
    rw[dn i (by omega),Rm]at hg
    refine⟨_,U,q,_,_,_,U,U,Ah.of a3,U,U,_,U,BX (λ_=>?_) (λe=>absurd rfl e)⟩
    refine⟨_,U,_,U,_,U,q,_,_,_,U,U,Ah.of a3,U,wl,t,ao,a,dx,s,l,lr,r,ps,rq,f,c,w,k',d,_,U,W,B,c1,c3,by omega,wc,c5,(by rw[BJ,Kl];omega),hg,λH8 a2 t' b9 a' b3 s' l' b4 S8 b0 W' c0=>?_⟩
    have a5:=uf S7 S S8
    refine⟨Dz _,λlr2 v=>?_⟩
    have s9:=Ax v (.lst [])
    have b8:a2≠lr2:=λz=>by have:=W'.wl;rw[z,v]at this;cases this
    have b1:l'≠lr2:=λz=>by have:=W'.bd.lst;rw[z,v]at this;cases this
    refine⟨a5.trans s9,a2,t',b9,a',b3,s',l',lr2,b4,[],st w,[],_,U,S7.free b0,a5.free v,?_,Ah.of (s9 _ _ c0),⟨Ao,.nil,(λm hm=>by cases hm),Dz _⟩,b8,b1,?_,Dz _⟩
    ·rw[show i+1-ms.length=(i-ms.length)+1 by omega,Pr,Dn]
     rw[<-ek]at W'
     exact Y6w W' s9
    ·rw[dn (i+1) (by omega),Rm]
     intro g sg
     cases sg
     exact λ_ _=>rfl
  ·rintro σ H7 ⟨S7,wl,t,ao,a,dx,s,l,lr,ps,rq,f,d,v5,rfl,S,nr,W,hs,B,n1,n2,hg,a7⟩
   have rl:=Paired.length R
   rw[xl]at rl
   rw[BJ,rl]at W hg
   rw[show ms.length+c-ms.length=c by omega]at W
   rw[Yy (by omega),Rm]at hg
   refine⟨_,U,_,U,wl,t,ao,a,dx,s,l,lr,ps,rq,f,c,d,_,U,W,B,by omega,λH9 r qs g n m S9 a9 B9 ST=>?_⟩
   have B9:=Qi B9 (hg g ST)
   have b2:=uf S7 S S9
   have w9:=S9 _ _ (by rw[Gs (Gg W.wl W.a (by intro z;cases z))];exact W.wl)
   have t9:=S9 _ _ (by rw[Gs (Gg W.t W.a (by intro z;cases z))];exact W.t)
   have o9:Ah K H9 ao (oV (outs c w)):=S9.tup (CP.Wa W.ao W.a)
   have c9:Ah K H9 s [.int 1,.int 0,.int 1]:=S9.tup (CP.Wa hs W.a)
   refine⟨_,U,wl,U,⟨_,Af.of w9⟩,λacc M=>?_⟩
   refine _Y (K:=K) (a:=wl) (xs:=[.ref t]) (λi ys H'=>Same H9 H'/\H' acc=some (.lst ys)/\(i=0->ys=[])/\(0<i->∃tt,ys=[.ref tt]/\H' tt=some (.tup [.ref ao,.ref s,.ref a]))) (by show 1<=sizeLine;decide) ⟨Ax M _,Ao,λ_=>rfl,λz=>absurd z (M_ _)⟩ (λi ys H' e=>Af.of (e.1 _ _ w9)) ?_ ?_
   ·rintro i x ys HX N w1 w2 hx hy ⟨L,aX,e0,_⟩ kN
    have i0:i=0:=by
     have:=(Fb.mp hx).1
     simp at this
     exact this
    subst i0
    cases hx
    obtain rfl:=e0 rfl
    refine⟨t,_,U,Ah.of (L _ _ t9),U,_,_,U,_,_,U,U,?_⟩
    refine⟨_,U,_,U,a,C,dx,_,_,U,L _ _ a9,kc.cls,kc.n2,U,_,U,(show 3<=sizeLine by decide),λtt a1=>kN _ _ _ _ (Ax a1 _ _ _ aX) ?_⟩
    have sT:=Ax a1 (.tup [.ref ao,.ref s,.ref a])
    have aT:=sT _ _ aX
    refine⟨Et (L.trans sT) M,Ao,λz=>(by cases z),λ_=>⟨tt,U,?_⟩⟩
    rw[CK (λz=>by rw[<-z,a1]at aX;cases aX)]
    exact Ao
   ·rintro ys HX hy ⟨L,aX,_,e1⟩
    obtain⟨tt,rfl,hT⟩:=e1 Vi
    exact kq HX acc tt ao s a dx r qs (S1.trans (b2.trans L)) aX hT (L.tup o9) (L.tup c9) (L _ _ a9) (B9.same L))
 refine⟨⟨f,_,FO,?_,kp,m⟩,⟨f,_,[.bool false],FO,?_,.cons rfl .nil,kp,m⟩⟩
 ·intro s us XX hl;have a0:us.length=2:=by simpa using hl
  match us,a0 with
  | [a,b],_=>exact BindsTo.of_defaults rfl (XX _ _ l) rfl rfl rfl
 ·intro s us XX hl;have a0:us.length=1:=by simpa using hl
  match us,a0 with
  | [a],_=>exact BindsTo.of_defaults rfl (XX _ _ l) rfl rfl rfl
end
end Br
namespace Br
open L2 Am Pc Ba Mw Xg
open Ai (Gm Mv Steps Step lq backs uQ st K1 Lh)
open CP (bt mW)
noncomputable abbrev mL (m:Gm):List V:=V.str m.nm::m.ns.map V.int
noncomputable def Er (m:Gm):Str:=Txt.join (Str.ofString " ") (m.nm::m.ns.map tS)
noncomputable def Lz (m:Gm):Bool:=JoinOk (Str.ofString " ") (m.nm::m.ns.map tS) && decide ((Er m).length<=24) && decide (wds (Er m)=m.nm::m.ns.map tS) && decide (59∉cl (Er m)) && decide (∀a∈m.ns,0<=a/\a<=9/\a.natAbs.log2<1920)
theorem X6o:((List.range 3).all λa=>Lz (.mv (.flip a)) && Lz (.mix a) && ((List.range 8).all λk=>Lz (.mv (.turn a k))) && ((List.range 3).all λb=>Lz (.mv (.iff a b)) && Lz (.mv (.pair a b)) && Lz (.mv (.swap a b)) && (List.range 3).all λd=>Lz (.mv (.cross a b d))))=true:=by decide +kernel
structure MF (m:Gm):Prop where
 jn:JoinOk (Str.ofString " ") (m.nm::m.ns.map tS)=true
 len:(Er m).length<=24
 ws:wds (Er m)=m.nm::m.ns.map tS
 fr:59∉cl (Er m)
 low:∀a∈m.ns,0<=a/\a<=9/\a.natAbs.log2<1920
variable{c:Nat}
theorem Kv{m:Gm}(c3:c<=3)(h:m.Ok c):MF m:=by
 have all:=J1.mp X6o;have g:∀a,a<c->_:=λa f=>all a (Fq.mpr (show a<3 by omega));have e:Lz m=true:=by
  have two:∀a b,a<c->b<c->_:=λa b f hb=>by
   have q:=g a f;simp only[Gk]at q;exact J1.mp q.2 b (Fq.mpr (show b<3 by omega))
  cases m with
  | mix a=>have q:=g a h;simp only[Gk]at q;exact q.1.1.2
  | mv v =>
   cases v with
   | flip a=>have q:=g a h;simp only[Gk]at q;exact q.1.1.1
   | turn a k =>
    obtain⟨f,k1,j⟩:a<c/\1<=k/\k<=7:=h;have q:=g a f;simp only[Gk]at q;exact J1.mp q.1.2 k (Fq.mpr (by omega))
   | iff a b =>
    obtain⟨f,hb,_⟩:a<c/\b<c/\a≠b:=h;have q:=two a b f hb;simp only[Gk]at q;exact q.1.1.1
   | pair a b =>
    obtain⟨f,hb,_⟩:a<c/\b<c/\a≠b:=h;have q:=two a b f hb;simp only[Gk]at q;exact q.1.1.2
   | swap a b =>
    obtain⟨f,hb,_⟩:a<c/\b<c/\a≠b:=h;have q:=two a b f hb;simp only[Gk]at q;exact q.1.2
   | cross a b d =>
    obtain⟨f,hb,i,_⟩:a<c/\b<c/\d<c/\a≠b/\a≠d/\b≠d:=h;have q:=two a b f hb;simp only[Gk]at q;exact J1.mp q.2 d (Fq.mpr (by omega))
 unfold Lz at e;simp only[Gk,K_]at e;exact⟨e.1.1.1.1,e.1.1.1.2,e.1.1.2,e.1.2,e.2⟩
noncomputable def L_ (c k:Nat):Str:=Str.ofString "look "++Dr c k
noncomputable abbrev dots (n:Nat):Str:=⟨(List.replicate n 46).toArray⟩
theorem wX:∀c,c<4->∀k,k<c->wds (L_ c k)=[Str.ofString "look",Dr c k]/\59∉cl (L_ c k)/\115∈cl (L_ c k)/\(L_ c k).length<=24/\((Str.ofString "look +"++dots k)++Str.ofString "s")++dots (c-1-k)=L_ c k:=by decide +kernel
theorem qT{sep:Str}{texts:W0}{B:Nat}(hB:∀y∈texts,y.length<=B)(h:texts.length*B+texts.length*sep.length<=30000):JoinOk sep texts=true/\(Txt.join sep texts).length<=texts.length*B+texts.length*sep.length:=by
 refine⟨?_,?_⟩
 ·unfold JoinOk;rw[StrLaws.joinFits hB (by omega)];rfl
 ·unfold Txt.join;rw[StrLaws.glued_eq_join];have h1:=StrLaws.join_length_le sep texts;have h2:=StrLaws.sumLen_le texts hB;omega
noncomputable def Dh (c:Nat)(ps:W0):Str:=(tS c++Str.ofString ":")++Txt.join (Str.ofString ";") ps
theorem X3s{ps:W0}{xs:List Ho}(c1:1<=c)(c6:c<=6)(hp:Paired (Wr c) ps xs)(fr:∀p∈ps,59∉cl p)(sm:∀p∈ps,p.length<=24)(len:ps.length<=100)(s:∃p∈ps,115∈cl p)(lk:(xs.filter Fg).length<=6):
  Pl (Dh c ps) c xs/\JoinOk (Str.ofString ";") ps=true/\(Txt.join (Str.ofString ";") ps).length<=3000:=by
 have l1:(Str.ofString ";").length=1:=by decide
 obtain⟨ok,d⟩:=qT (sep:=Str.ofString ";") sm (by rw[l1];omega);have d:(Txt.join (Str.ofString ";") ps).length<=3000:=by rw[l1]at d;omega
 have g:Txt.join (Str.ofString ";") ps=Str.join ⟨#[59]⟩ ps:=by unfold Txt.join;rw[StrLaws.glued_eq_join];rfl
 have f:=xJ c (by omega);have lt:(tS (c:Int)).length=1:=by have:=congrArg List.length f.1;simpa [Str.length] using this
 refine⟨⟨?_,c1,c6,Txt.join (Str.ofString ";") ps,?_,?_,?_,lk⟩,ok,d⟩
 ·show ((tS c++Str.ofString ":")++Txt.join (Str.ofString ";") ps).length<=30000;rw[Str.length_append,Str.length_append,lt,show (Str.ofString ":").length=1 by decide];omega
 ·have e:cl (Dh c ps)=[c+48]++58::cl (Txt.join (Str.ofString ";") ps):=by
   unfold Dh;rw[W_,W_,f.1,show cl (Str.ofString ":")=[58] by decide];rfl
  have q:=Y4d (z:=Dh c ps) (c:=58) (a:=[c+48]) (by simp;omega) e;rw[show Str.ofString ":"=⟨#[58]⟩ by decide,q];have i:(⟨[c+48].toArray⟩:Str)=tS c:=Ub f.1.symm;have j:(⟨(cl (Txt.join (Str.ofString ";") ps)).toArray⟩:Str)=Txt.join (Str.ofString ";") ps:=Ub rfl;rw[i,j]
 ·intro h;obtain⟨p,hp,k⟩:=s;have b:=(Y2p _).mp h;have:=b 115 (by rw[g];exact lG _ hp _ k);cases this
 ·rw[show Str.ofString ";"=⟨#[59]⟩ by decide,Y1v (c:=59) (ps:=ps) (λz=>by obtain⟨p,hp,_⟩:=s;rw[z]at hp;cases hp) fr (by rw[show (⟨#[59]⟩:Str)=Str.ofString ";" by decide,g,jz])];exact hp
theorem wI{k x i:Nat}(hc:c<4)(hk:k<c)(hx:x<2^c)(hi:i<2^c):i^^^2^k<2^c/\x^^^2^k<2^c/\(i^^^2^k=x↔i=x^^^2^k):=by
 have all:((List.range 4).all λc=>(List.range c).all λk=>(List.range (2^c)).all λx=>(List.range (2^c)).all λi=>decide (i^^^2^k<2^c/\x^^^2^k<2^c/\(i^^^2^k=x↔i=x^^^2^k)))=true:=by decide +kernel
 exact Rp (Ai.DR (Ai.DR (Ai.DR (Ai.DR all hc) hk) hx) hi)
noncomputable def HN (c w:Nat):List Nat:=(List.range c).filter λk=>bt w k == 1
theorem X4b:∀c,c<4->∀w,w<2^c->(HN c w).foldl (λx k=>x^^^2^k) 0=w:=by decide +kernel
noncomputable abbrev MK (ks:W3):List Gm:=ks.map λk=>Gm.mv (.flip k)
theorem uU{c:Nat}(c3:c<=3):∀{ks:W3}{x:Nat}{f g:Nat->A5},(∀k∈ks,k<c)->x<2^c->(∀i,i<2^c->f i=st x i)->Steps c (MK ks) f g->∀i,i<2^c->g i=st (ks.foldl (λx k=>x^^^2^k) x) i
 | [],x,f,g,_,_,e,s=>by cases s;exact e
 | k::ks,x,f,g,hk,hx,e,.cons (g:=h) s t=>by
  have a:=hk k (by simp);refine uU c3 (ks:=ks) (x:=x^^^2^k) (f:=h) (λj d=>hk j (Hx _ d)) (wI (by omega) a hx hx).2.1 (λi hi=>?_) t;obtain⟨l,_,b⟩:=wI (by omega) a hx hi;have:h i=Bk (f (i^^^2^k)) (0:Nat):=s i hi;rw[this,e _ l];show st x (i^^^2^k)=_;unfold Ai.st;by_cases q:i^^^2^k=x
  ·rw[if_pos q,if_pos (b.mp q)]
  ·rw[if_neg q,if_neg (λz=>q (b.mpr z))]
noncomputable abbrev Je (c w:Nat)(mv:List Gm):List Gm:=MK (HN c w)++mv++backs mv
variable{w:Nat}
theorem wJ{k:Nat}(h:k∈HN c w):k<c:=Fq.mp (Vp.mp h).1
variable{mv:List Gm}
theorem X6p(ok:∀m∈mv,m.Ok c):∀m∈Je c w mv,m.Ok c:=λm b=>by
 rcases K9.mp b with h | h
 ·rcases K9.mp h with h | h
  ·obtain⟨k,a,rfl⟩:=Hu.mp h;exact wJ a
  ·exact ok m h
 ·exact uQ ok m h
theorem X6r(c3:c<=3)(wc:w<2^c)(ok:∀m∈mv,m.Ok c):∀g,Steps c (Je c w mv) (st 0) g->∀i,i<2^c->g i=st w i:=λg s=>by
 obtain⟨k2,b,f⟩:=Steps.append s;obtain⟨k1,e,d⟩:=Steps.append b;have a:=uU c3 (λk h=>wJ h) (Kh c) (λ_ _=>rfl) e;rw[X4b c (by omega) w wc]at a;have j:Lh c k1:=λi hi=>by rw[a i hi];exact(K1 w i).amt
 intro i hi;rw[lq (by omega) ok j d f i hi];exact a i hi
noncomputable abbrev lps (c w:Nat)(mv:List Gm):List Str:=(Je c w mv).map Er++(List.range c).map (L_ c)
theorem qU{A B:Type}{R:A->B->Prop}{a c:List A}{b d:List B}(h:Paired R a b)(g:Paired R c d):Paired R (a++c) (b++d):=by
 induction h with
 | nil=>exact g
 | cons h _ ih=>exact .cons h ih
theorem lZ{A B X:Type}{R:A->B->Prop}{f:X->A}{g:X->B}:∀{l:List X},(∀x∈l,R (f x) (g x))->Paired R (l.map f) (l.map g)
 | [],_=>.nil
 | x::l,h=>.cons (h x (by simp)) (lZ λy a=>h y (Hx _ a))
theorem _M(c1:1<=c)(c3:c<=3)(wc:w<2^c)(ok:∀m∈mv,m.Ok c)(l:mv.length<=10):
  Back (Dh c (lps c w mv)) c w (Je c w mv)/\JoinOk (Str.ofString ";") (lps c w mv)=true/\(Txt.join (Str.ofString ";") (lps c w mv)).length<=3000:=by
 have g:=X6p (w:=w) ok;have s:(HN c w).length<=3:=by
  have:=Rx (λk=>bt w k == 1) (List.range c);rw[Kl]at this;unfold HN;omega
 have t:(Je c w mv).length<=60:=by
  show (MK (HN c w)++mv++mv.reverse.map Gm.back).length<=60;rw[G3,G3,BJ,BJ,Yp];omega
 have j:=wX c (by omega);have i:∀p∈lps c w mv,(∃m∈Je c w mv,p=Er m)\/∃k,k<c/\p=L_ c k:=λp hp=>by
  rcases K9.mp hp with h | h
  ·obtain⟨m,d,rfl⟩:=Hu.mp h;exact .inl ⟨m,d,U⟩
  ·obtain⟨k,b,rfl⟩:=Hu.mp h;exact .inr ⟨k,Fq.mp b,U⟩
 obtain⟨pl,q,o⟩:=X3s (c:=c) (ps:=lps c w mv) (xs:=(Je c w mv).map Sum.inl++(List.range c).map Sum.inr) c1 (by omega)
  (qU (lZ λm d=>by
   have f:=Kv c3 (g m d)
   exact⟨f.ws,λa n=>⟨(f.low a n).1,(f.low a n).2.1⟩,Gm.fits (g m d)⟩) (lZ λk b=>⟨Fq.mp b,(j k (Fq.mp b)).1⟩))
  (λp hp=>by
   rcases i p hp with ⟨m,d,rfl⟩ | ⟨k,b,rfl⟩
   ·exact(Kv c3 (g m d)).fr
   ·exact(j k b).2.1)
  (λp hp=>by
   rcases i p hp with ⟨m,d,rfl⟩ | ⟨k,b,rfl⟩
   ·exact(Kv c3 (g m d)).len
   ·exact(j k b).2.2.2.1)
  (by rw[G3,BJ,BJ,Kl];omega)
  ⟨L_ c 0,Hy _ (Hu.mpr ⟨0,Fq.mpr (by omega),U⟩),(j 0 (by omega)).2.2.1⟩
  (by
   have e:((Je c w mv).map Sum.inl:List Ho).filter Fg=[]:=oX.mpr λx r=>by
    obtain⟨m,_,rfl⟩:=Hu.mp r
    exact λz=>by cases z
   rw[Rr,e,List.nil_append]
   refine Cv (Rx _ _) ?_
   rw[BJ,Kl]
   omega)
 exact⟨⟨pl,c3,wc,g,t,X6r c3 wc ok⟩,q,o⟩
end Br
namespace Br
open L2 Am Pc Ba Mw
open Ai (top Bs Bx Gm Mv Gy Rw G6 Steps st K1 backs)
open CP (Io bt GK Hc oV)
def KY:Sp:=λvs H Q _=>∃(x:Int) (c:Nat),vs=[.int x,.int c]/\0<=x/\1<=c/\c<=3/\∀(l:Y0) (H':Hp) (m:Gm),H l=none->Same H H'->m.Ok c->H' l=some (.lst (mL m))->Q (.ref l) H'
def tW:Sp:=λvs H Q _=>∃(l:Y0) (m:Gm) (c:Nat),vs=[.ref l]/\H l=some (.lst (mL m))/\m.Ok c/\∀(r:Y0) (H':Hp),Same H H'->H' r=some (.lst (mL m.back))->Q (.ref r) H'
def KN:Sp:=λvs H Q _=>∃(l:Y0) (m:Gm),vs=[.ref l]/\H l=some (.lst (mL m))/\MF m/\∀H',Same H H'->Q (.str (Er m)) H'
theorem QL{x:Int}{c:Nat}(h:0<c):∃a:Nat,a<c/\x%(c:Int)=a:=⟨(x%(c:Int)).toNat,by have:=Yl x (show (0:Int)<c by omega);have:=Pq x (show (c:Int)≠0 by omega);omega,by have:=Pq x (show (c:Int)≠0 by omega);omega⟩
section
variable {P:U8}{w:W1}{K:U0}{mg:U4}{base:Heap}{k:Nat}{h:Heap}{C aS:Y0}
theorem JT:Ar ["text","by_signs"] ["text","by_signs"] (Bh (top 137)):=fS
theorem X2q{D:Y0}{oc:W2}{od:W5}{n:Nat}{sl:W4}(l:K.lookup D=some ⟨oc,od,.seq #[.bool false] n,sl⟩)(F:Aa K "tell" (top 137) (.ref D))(X:K.In h)(G:Ng h mg)(dE:Ends P w K mg base k C)(eC:Ag P w K mg base k "show_end" ["outs","part"] (uI K)):JL P w K mg base (k+1) "tell" ["text","by_signs"] Ia [.bl false]:=by
 have nd:=JT.nd
 obtain⟨f,kV,Z,pm,an,p,ct,FO,L,m⟩:=F.all (P:=P) (w:=w) (base:=base) (k:=k) (sp:=Ia) (ps:=["text","by_signs"]) X G JT (λvs H Q E h=>by obtain⟨z,c,w,ms,rfl,_⟩:=h;rfl) (λf p A outer s H vs Q E u h=>by
  obtain⟨z,c,w,ms,rfl,d,M⟩:=h
  refine⟨_,(@Aj _ _ _ (Ay (Iu Kp QD QF QV Cg (Ab (GD rfl (BZ.of (Nc:=["outs","part","holder"]) (mp:=[none,none,none]) (by kernel_rfl)) (JC (Av dE.c u rfl (Ab (pv 0) (Ab (pv 1) Ae)))) (λ_ _ _ _=>(Y3v rfl (show (["outs","part","holder"]:W0).Nodup by decide +kernel) rfl rfl rfl rfl rfl rfl)) (λ_ _ _ _=>(Av eC u rfl (Ab (pv 0) (Ab (pv 1) Ae))))) Ae)))),?_⟩
  refine⟨U,_,U,_,U,z,c,w,ms,U,d,λH1 l t V s a dx lb ps Y j O S hs ha BD=>?_⟩
  refine⟨l,U,⟨_,Af.of j⟩,λacc b=>?_⟩
  have c1:=d.pl.c1
  have w8:w<8:=GC d.wc (QC (by decide) d.c3:2^c<=2^3)
  refine _Z (K:=K) (a:=l) (xs:=[.ref t]) (λi ys H'=>Same H1 H'/\H' acc=some (.lst ys)/\(i=0->ys=[])/\(0<i->ys=[.str (LK (outs c w))])) (by show 1<=sizeLine;decide) ⟨Ax b _,Ao,λ_=>rfl,λz=>absurd z (M_ _)⟩ (λi ys H' e=>Af.of (e.1 _ _ j)) ?_ ?_
  ·rintro i x ys I N w1 w2 w3 v q ⟨g,r,T,_⟩ kN
   have R:i=0:=by
    have:=(Fb.mp v).1
    simp at this
    exact this
   subst R
   cases v
   obtain rfl:=T rfl
   refine⟨t,_,U,Ah.of (g _ _ O),U,_,_,U,_,_,U,_,_,U,U,?_⟩
   refine⟨_,U,_,U,V,s,c,w,U,c1,by have:=d.c3;omega,w8,g.tup S,g.tup hs,λH3 S3=>kN _ _ _ _ _ (S3 _ _ r) ?_⟩
   exact⟨Et (g.trans S3) b,Ao,λz=>(by cases z),λ_=>rfl⟩
  ·rintro ys I q ⟨g,r,_,e1⟩
   obtain rfl:=e1 Vi
   have W:(LK (outs c w)).length<=200:=by
    have:=(j9 c (by have:=d.c3;omega) c1 w w8).2.2.1
    unfold LK
    rw[Str.length_append,show (Str.ofString " 1 0 1").length=6 by decide]
    omega
   have J:Txt.join (Str.ofString "\n") [LK (outs c w)]=LK (outs c w):=by unfold Txt.join;rw[StrLaws.glued_eq_join];rfl
   refine⟨_,acc,[LK (outs c w)],U,U,Af.of r,(qT (sep:=Str.ofString "\n") (texts:=[LK (outs c w)]) (B:=200) (λy q=>by rw[Ko.mp q];exact W) (show 1*200+1*(Str.ofString "\n").length<=30000 by decide)).1,?_⟩
   rw[J]
   exact M I (Y.trans g))
 refine⟨f,_,[.bool false],FO,?_,.cons rfl .nil,L,m⟩;intro s us XX j;have o:us.length=1:=by simpa using j
 match us,o with
 | [a],_=>exact BindsTo.of_defaults rfl (XX _ _ l) rfl rfl rfl
theorem Y8k(F:Aa K "_law_move" (top 142) .none)(X:K.In h)(G:Ng h mg):Ag P w K mg base (k+1) "_law_move" ["_law_cell","_law_cells"] KY:=by
 refine F.cal X G ["_law_cell","_law_cells","_law_one","_law_two","_law_kind"] λy H vs Q E hr h=>?_;obtain⟨x,c,rfl,x0,c1,c3,D⟩:=h;obtain⟨a,p,ea⟩:=QL (x:=x) (c:=c) (by omega);obtain⟨b,r,O⟩:=QL (x:=(a:Int)+1+x / 3%2) (c:=c) (by omega);obtain⟨g,k8,Y⟩:=QL (x:=x / 6) (c:=8) (by decide);obtain⟨e,e7,T⟩:=QL (x:=x / 48) (c:=7) (by decide)
 refine⟨_,(@K4 _ _ _ _ _ (@Bd _ _ 2 _ _ _ _ y rfl (Or.inl rfl) (Aq Jj (pv 0) (pv 1)) rfl (.inl rfl))
  (@K4 _ _ _ _ _ (@Bd _ _ 3 _ _ _ _ y rfl (Or.inl rfl) (Aq Jj (Aq Gu (Aq Gu (pv 2) Ad) (Aq Jj (Aq j8 (pv 0) Ad) Ad)) (pv 1)) rfl (.inl rfl))
  (@K4 _ _ _ _ _ (@Bd _ _ 4 _ _ _ _ y rfl (Or.inl rfl) (Aq Jj (Aq j8 (pv 0) Ad) Ad) rfl (.inl rfl))
  (@K4 _ _ _ _ _ (CQ (PW.pt (Fv (Bq Di (pv 4) Ad (Ac _)) (Iw (PW.pt (O9 (Bq VH (pv 4) Ad (Ac _)) (QW (Bq Di (pv 2) (pv 3) (Ac _))))))))
   (@Aj _ _ _ (Ay (@Gv _ _ _ _ (Ab Cg (Ab (pv 2) Ae)))))
   CT)
  (@Ak _ _ _ _ _ (CQ (PW.pt (Fv (Bq Di (pv 4) Ad (Ac _)) (Iw (Bq Di (pv 4) Ad (Ac _)))))
   (@Aj _ _ _ (Ay (@Gv _ _ _ _ (Ab Cg (Ab (pv 2) Ae)))))
   CT)
  (@Ak _ _ _ _ _ (CQ (Bq Di (pv 4) Ad (Ac _))
   (@Aj _ _ _ (Ay (@Gv _ _ _ _ (Ab Cg (Ab (pv 2) (Ab (Aq Gu Ad (Aq Jj (Aq j8 (pv 0) Ad) Ad)) Ae))))))
   CT)
  (@K4 _ _ _ _ _ (CQ (PW.pt (O9 (Bq Di (pv 4) Ad (Ac _)) (QW (Bq Di (pv 1) Ad (Ac _)))))
   (@Aj _ _ _ (Ay (@Gv _ _ _ _ (Ab Cg (Ab (pv 2) (Ab (pv 3) (Ab (Aq G5 (Aq G5 Ad (pv 2)) (pv 3)) Ae)))))))
   CT)
  (@Aj _ _ _ (Ay (@Gv _ _ _ _ (Ab (@Al _ _ _ _ _ _ _ DK (@Gv _ _ _ _ (@Ab _ _ _ _ _ Cg (@Ab _ _ _ _ _ Cg (@Ab _ _ _ _ _ Cg (@Ab _ _ _ _ _ Cg Ae rfl) rfl) rfl) rfl)) (Aq G5 (pv 4) Ad) (λ_ _=>rfl)) (Ab (pv 2) (Ab (pv 3) Ae))))))))))))),?_⟩
 try dsimp only[Bg]
 have J:(0:Int)<(c:Int):=by omega
 have t:∀(m:Gm),m.Ok c->∀l,H l=none->Q (.ref l) (upd H l (.lst (mL m))):=λm ok l n=>D l _ m n (Ax n _) ok Ao;refine⟨λf H'=>H'=H/\f=[some (.int x),some (.int c),some (.int a),none,none],⟨_,U,_,U,_,_,U,U,J,U,by rw[<-ea];rfl⟩,?_⟩;rintro f H' ⟨rfl,rfl⟩;refine⟨λf H2=>H2=H'/\f=[some (.int x),some (.int c),some (.int a),some (.int b),none],⟨_,U,_,_,U,U,_,U,_,_,U,U,⟨by decide,by decide⟩,_,_,U,U,(show (0:Int)<2 by decide),_,_,U,U,_,U,_,_,U,U,J,U,by rw[<-O];rfl⟩,?_⟩;rintro f H' ⟨rfl,rfl⟩;refine⟨λf H2=>H2=H'/\f=[some (.int x),some (.int c),some (.int a),some (.int b),some (.int g)],⟨_,U,_,_,U,U,⟨by decide,by decide⟩,_,_,U,U,(show (0:Int)<8 by decide),U,by rw[show (g:Int)=x / 6%8 from Y.symm];rfl⟩,?_⟩;rintro f H' ⟨rfl,rfl⟩;refine⟨λf H2=>H2=H'/\f=[some (.int x),some (.int c),some (.int a),some (.int b),some (.int g)]/\g≠0/\(3<g->a≠b),?_,?_⟩
 ·have L:∀l,H' l=none->Q (.ref l) (upd H' l (.lst [V.str "flip",V.int a])):=t (.mv (.flip a)) p;refine⟨_,U,U,_,U,G4 (λN=>⟨_,U,(show 2<=sizeLine by decide),L⟩) (λN=>?_)⟩;refine⟨_,U,_,_,U,U,_,U,BX (λg3=>?_) (λg3=>⟨U,U,by omega,λz=>absurd z (by omega)⟩)⟩;exact⟨_,U,_,U,U,_,U,G4 (λC=>⟨_,U,(show 2<=sizeLine by decide),L⟩) (λC=>⟨U,U,by omega,λ_=>by omega⟩)⟩
 rintro f H' ⟨rfl,rfl,n0,s⟩;have I:∀l,H' l=none->Q (.ref l) (upd H' l (.lst [V.str "mix",V.int a])):=t (.mix a) p;refine⟨_,U,U,_,U,G4 (λC=>⟨_,U,(show 2<=sizeLine by decide),I⟩) (λC=>?_)⟩;refine⟨_,U,U,_,U,G4 (λe3=>⟨_,U,(show 2<=sizeLine by decide),I⟩) (λe3=>?_)⟩;refine⟨_,U,U,_,U,G4 (λR=>?_) (λR=>?_)⟩
 ·refine⟨_,U,_,U,_,_,U,U,⟨by decide,by decide⟩,_,_,U,U,(show (0:Int)<7 by decide),_,_,U,U,(show 3<=sizeLine by decide),λl n=>?_⟩;have:=t (.mv (.turn a (1+e))) ⟨p,by omega,by omega⟩ l n;have ev:(λi j:Int=>V.int (i+j)) 1 ((λi j:Int=>i%j) (x / 48) 7)=V.int ((1+e:Nat):Int):=by show V.int (1+x / 48%7)=_;rw[show x / 48%7=(e:Int) from T];rfl
  have ev:V.int (1+x / 48%7)=V.int ((1+e:Nat):Int):=ev;show Q (.ref l) (upd H' l (.lst [V.str "turn",V.int a,V.int (1+x / 48%7)]));rw[ev];exact this
 refine⟨λf H2=>H2=H'/\f=[some (.int x),some (.int c),some (.int a),some (.int b),some (.int g)],?_,?_⟩
 ·refine⟨_,U,U,_,U,G4 (λM=>?_) (λM=>⟨U,U⟩)⟩;refine⟨_,U,U,_,U,G4 (λZ=>?_) (λZ=>⟨U,U⟩)⟩;have q:=s (by omega);obtain⟨d,v⟩:∃d:Nat,(3:Int)-a-b=d/\d<3/\a≠d/\b≠d:=⟨3-a-b,by omega⟩;refine⟨_,U,_,U,_,U,_,_,U,U,_,U,_,_,U,U,(show 4<=sizeLine by decide),λl n=>?_⟩;have:=t (.mv (.cross a b d)) ⟨p,r,by omega,q,v.2.2.1,v.2.2.2⟩ l n;show Q (.ref l) (upd H' l (.lst [V.str "cross",V.int a,V.int b,V.int ((3:Int)-a-b)]));rw[v.1];exact this
 rintro f H2 ⟨rfl,rfl⟩;have W:g=4\/g=5\/g=6\/g=7:=by omega
 have q:=s (by omega);obtain⟨nm,en,A⟩:∃nm:Str,Ez [V.str "if",V.str "pair",V.str "swap",V.str "if"] ((g:Int)-4)=some (V.str nm)/\∀(o:Hp),Same H2 o->∀l,o l=none->Q (.ref l) (upd o l (.lst [V.str nm,V.int a,V.int b])):=by
  have u:∀m:Gm,m.Ok c->∀(o:Hp),Same H2 o->∀l,o l=none->Q (.ref l) (upd o l (.lst (mL m))):=λm ok o S l n=>D l _ m (S.free n) (S.trans (Ax n _)) ok Ao;rcases W with rfl | rfl | rfl | rfl
  ·exact⟨_,U,u (.mv (.iff a b)) ⟨p,r,q⟩⟩
  ·exact⟨_,U,u (.mv (.pair a b)) ⟨p,r,q⟩⟩
  ·exact⟨_,U,u (.mv (.swap a b)) ⟨p,r,q⟩⟩
  ·exact⟨_,U,u (.mv (.iff a b)) ⟨p,r,q⟩⟩
 refine⟨(show 4<=sizeLine by decide),λl4 B=>?_⟩;exact⟨_,U,_,_,U,U,l4,_,_,_,U,U,Af.of Ao,en,_,U,_,U,(show 3<=sizeLine by decide),A _ (Ax B _)⟩
theorem _9(F:Aa K "_law_back" (top 143) .none)(X:K.In h)(G:Ng h mg):Ag P w K mg base (k+1) "_law_back" ["_law_move_here"] tW:=by
 refine F.cal X G ["_law_move_here"] λn H vs Q E p h=>?_;obtain⟨l,m,c,rfl,b,ok,g⟩:=h
 refine⟨_,(@Ak _ _ _ _ _ (CQ (Bq Di (Al DK (pv 0) Ad (λ_ _=>rfl)) Cg (Ac _))
   (@Aj _ _ _ (Ay (@Gv _ _ _ _ (Ab Cg (Ab (Al DK (pv 0) Ad (λ_ _=>rfl)) (Ab (Aq G5 Ad (Al DK (pv 0) Ad (λ_ _=>rfl))) Ae))))))
   CT)
  (@Aj _ _ _ (Ay (pv 0)))),?_⟩
 try dsimp only[Bg]
 have j:m.nm≠Str.ofString "turn"->m.back=m:=λi=>by
  cases m with
  | mix a=>rfl
  | mv v=>cases v<;>first | rfl | exact absurd rfl i
 have d:m.nm=Str.ofString "turn"->∃a k:Nat,m=.mv (.turn a k)/\k<=7:=λe=>by
  cases m with
  | mix a=>exact absurd e (by show ¬ Str.ofString "mix"=Str.ofString "turn";decide)
  | mv v =>
   cases v with
   | turn a k=>exact⟨a,k,rfl,ok.2.2⟩
   | flip=>exact absurd e (by show ¬ Str.ofString "flip"=Str.ofString "turn";decide)
   | iff=>exact absurd e (by show ¬ Str.ofString "if"=Str.ofString "turn";decide)
   | pair=>exact absurd e (by show ¬ Str.ofString "pair"=Str.ofString "turn";decide)
   | swap=>exact absurd e (by show ¬ Str.ofString "swap"=Str.ofString "turn";decide)
   | cross=>exact absurd e (by show ¬ Str.ofString "cross"=Str.ofString "turn";decide)
 refine⟨_,U,l,_,_,_,U,U,Af.of b,Mh _ _,U,_,U,BX (λe=>?_) (λe=>?_)⟩
 ·obtain⟨a,k,rfl,o⟩:=d (V.str.inj e);have b:Af K H l [V.str "turn",V.int a,V.int k]:=Af.of b;refine⟨_,U,l,_,_,_,U,U,b,U,_,U,l,_,_,_,U,U,b,U,_,_,U,U,(show 3<=sizeLine by decide),λr f=>g r _ (Ax f _) ?_⟩;rw[Ao];show some (HO.lst [V.str "turn",V.int a,V.int (8-(k:Int))])=some (HO.lst [V.str "turn",V.int a,V.int ((8-k:Nat):Int)]);rw[show (8:Int)-(k:Int)=((8-k:Nat):Int) by omega]
 ·refine⟨_,U,g l H (Same.refl _) ?_⟩;rw[j λz=>e (congrArg V.str z)];exact b
theorem Y8j(F:Aa K "_law_text" (top 144) .none)(X:K.In h)(G:Ng h mg)(B:Bs mg):Ag P w K mg base (k+1) "_law_text" ["_law_move_here"] KN:=by
 refine F.cal X G ["_law_move_here"] λs H vs Q E t h=>?_;obtain⟨l,m,rfl,n,g,o⟩:=h;refine⟨_,(@Aj _ _ _ (Ay (Iu Kp QD QF QV Cg (Ab (GD rfl (BZ.of (Nc:=["_law_word"]) (mp:=[none]) (by kernel_rfl)) (JC (pv 0)) (λ_ _ _ _=>(Ck (i:=0) (show (["_law_word"]:W0).Nodup by decide +kernel) rfl (Or.inl rfl))) (λ_ _ _ _=>(IV zO rfl B.str K8 (Ab (pv 0) Ae)))) Ae)))),?_⟩;try dsimp only[Bg]
 have l5:(mL m).length<=5:=by
  cases m with
  | mix a=>exact oO rfl
  | mv v=>cases v<;>exact oO rfl
 refine⟨U,_,U,l,U,⟨_,Af.of n⟩,λacc b=>?_⟩;refine QT (K:=K) (a:=l) (xs:=mL m) (λi ys H'=>Same H H'/\H' acc=some (.lst ys)/\ys=((m.nm::m.ns.map tS).take i).map V.str) (Cv l5 (by decide)) ⟨Ax b _,Ao,U⟩ (λi ys H e=>Af.of (e.1 _ _ n)) ?_ ?_
 ·rintro i x ys HX N c q ⟨f,d,rfl⟩ r;have nx:∀z:Str,(m.nm::m.ns.map tS)[i]?=some z->N (.str z) HX:=λz p=>r _ _ d ⟨Et f b,Ao,by rw[Km,p,Dn];rfl⟩;cases i with
  | zero=>cases c;exact⟨_,rfl,.inl ⟨_,rfl,nx _ rfl⟩⟩
  | succ i =>
   have c:(m.ns.map V.int)[i]?=some x:=c;rw[Dw]at c;obtain⟨a,j,rfl⟩:=GZ.mp c;exact⟨_,U,.inr ⟨a,U,(g.low a (Il j)).2.2,nx _ (by show (m.ns.map tS)[i]?=_;rw[Dw,j];rfl)⟩⟩
 ·rintro ys HX q ⟨f,d,rfl⟩;rw[show (mL m).length=(m.nm::m.ns.map tS).length by simp,Lw]at d;exact⟨_,acc,_,U,U,Af.of d,g.jn,o HX f⟩
end
end Br
namespace L2
open PySem.Builtin.Str
theorem uc(z:Array Nat):∀(k:Nat) (a:Array Nat),((List.replicate k z).foldl (·++·) a).toList=a.toList++(List.replicate k z.toList).flatten
 | 0,a=>by simp
 | k+1,a=>by
  rw[Vy,List.foldl_cons,uc z k,Vy,List.flatten_cons];simp
theorem sY{X:Cx}:C_ X (binaryOp .Mult) (λx y H Q=>∃z k,x=.str z/\y=.int k/\0<=k/\k<100/\z.length<=100/\∀a,a.cps.toList=(List.replicate k.toNat z.cps.toList).flatten->Q (.str a) H):=by
 intro pins s σ H x y v u Q I j i h;obtain⟨z,k,rfl,rfl,k0,k1,m,q⟩:=h;obtain⟨t,rfl⟩:=j;obtain⟨t',rfl⟩:=i;have g:(decide (k < -(2^63:Int)) || decide (k>=2^63))=false:=by
  rw[FZ (by omega),FZ (by omega)];rfl
 have l:z.length*k.toNat<=10000:=Cv (Nat.mul_le_mul m (show k.toNat<=100 by omega)) (by decide);have f:(10000:Nat)<=sizeLine:=by decide
 refine PySem.P.mul_str g (λh1 _=>?_) (λ_ _=>?_) ?_
 ·have:(100:Int)<=(2^63-1) / k:=by
   rw[Int.le_ediv_iff_mul_le (by omega)];omega
  omega
 ·unfold tooLong;exact FZ (by omega)
 ·have b:∀a:Str,a.length<=z.length*k.toNat->a.cps.toList=(List.replicate k.toNat z.cps.toList).flatten->(Made.str a).post (EP X pins σ Q) s:=λa d e=>⟨Cv d (Cv l f),.str a,H,I.tok _,⟨_,U⟩,q a e⟩;split
  ·rename_i c;refine b _ (Dz _) ?_;have c':k<1:=by simpa using c
   rw[show k.toNat=0 by omega];rfl
  ·split
   ·rename_i c;have c':k=1\/z.length=0:=by simpa using c
    refine⟨.str z,H,I,⟨_,U⟩,q z ?_⟩;rcases c' with c' | c'
    ·rw[c'];simp
    ·have:z.cps.toList=[]:=List.length_eq_zero_iff.mp (show z.cps.toList.length=0 from c');rw[this];simp
   ·refine b _ ?_ ?_
    ·show ((List.replicate k.toNat z.cps).foldl (·++·) #[]).size<=z.cps.size*k.toNat;rw[ud,Nat.mul_comm];simp
    ·show ((List.replicate k.toNat z.cps).foldl (·++·) #[]).toList=_;rw[uc];rfl
end L2
namespace L2
theorem _V{K:U0}{l:Y0}{xs:List V}{tc:TT}{te:TE}{fr:St}{H1:Hp}{acc:Y0}{Q:VK}(hacc:H1 acc=none)(hl:Ah K H1 l xs)(hn:xs.length<=sizeLine)
  (hs:∀z H (N:Bool->Hp->Prop),z∈xs->Same H1 H->N false H->tc (some z::fr) H N)
  (hd:∀H2,Same H1 H2->H2 acc=some (.lst [])->Q (.ref acc) H2):K6 (N6 K l) (Bf 0) tc te (none::fr) H1 acc Q:=by
 refine⟨λi m ys c H2=>m=xs.length-i/\i<=xs.length/\(∃v,c=v::fr)/\Same H1 H2/\H2 acc=some (.lst ys)/\ys=[],⟨xs.length,by simp,Dz _,⟨_,U⟩,Ax hacc _,Ao,U⟩,?_⟩;rintro i m ys c H2 ⟨rfl,hi,⟨v,rfl⟩,a,d,f⟩;by_cases hlt:i<xs.length
 ·have g:xs[i]?=some xs[i]:=by simp[hlt]
  have b:xs[i]∈xs:=Vt hlt;refine .inr ⟨⟨_,_,a.tup hl,g⟩,λu k j=>?_⟩;obtain⟨rfl,h⟩:=j;have:=h _ (a.tup hl);rw[g]at this;cases this;exact hs xs[i] _ _ b a ⟨(λhp=>by cases hp),λhp=>⟨xs.length-(i+1),by omega,U,hlt,⟨_,U⟩,a,d,f⟩⟩
 ·have e:i=xs.length:=by omega
  subst e;subst f;exact .inl ⟨⟨_,a.tup hl,Bj _⟩,hd H2 a d⟩
end L2
namespace Br
open L2 Am Pc Ba Mw
open Ai (top Bs Bx Gm Mv Gy Rw G6 Steps st K1 backs)
open CP (Io bt GK Hc oV kj Ib)
theorem X7s(w i:Nat):[V.int (if decide (V.int (i:Int)=V.int (w:Int))=true then 1 else 0),V.int 0,V.int 0,V.int 0,V.int 0]=(l5 (st w i)).map V.int:=by
 unfold Ai.st;by_cases e:i=w
 ·rw[if_pos e,Jc (by rw[e]),if_pos rfl];rfl
 ·rw[if_neg e,FZ (show ¬ V.int (i:Int)=V.int (w:Int) from λz=>e (by have:=V.int.inj z;omega)),if_neg (by decide)];rfl
def GQ (K:U0)(n:Nat):Sp:=λvs H Q _=>∃(a:Y0) (ns:U6),vs=[.ref a]/\Af K H a (ns.map V.int)/\ns.length<=n/\∀H',Q (.bl true) H'
theorem NT{c:Nat}(c1:1<=c)(c3:c<=3):Ez [V.int 2,V.int 4,V.int 8] ((c:Int)-1)=some (.int (2^c:Nat)):=by
 have:c=1\/c=2\/c=3:=by omega
 rcases this with rfl | rfl | rfl<;>rfl
theorem R4{k:Nat}(h:k<3):Ez [V.int 1,V.int 2,V.int 4] (k:Int)=some (.int (2^k:Nat)):=by
 have:k=0\/k=1\/k=2:=by omega
 rcases this with rfl | rfl | rfl<;>rfl
theorem ZF{k:Nat}(h:k<3):((2^k:Nat):Int)≠0/\Sz 9000 ((2^k:Nat):Int):=by
 have:k=0\/k=1\/k=2:=by omega
 rcases this with rfl | rfl | rfl<;>exact⟨by decide,(show Sz 10 _ by decide).mono (by decide)⟩
theorem X4d(ns:U6):∃ms:List Int,Du (ns.map V.int) (some 2) (some 12)=ms.map V.int/\ms.length<=10:=by
 unfold Du;rw[show (some (2:Int))=some ((2:Nat):Int) from rfl,show (some (12:Int))=some ((12:Nat):Int) from rfl,HT.Um,HT.Um,<-List.map_drop,<-List.map_take];refine⟨_,U,?_⟩;rw[Oe,BJ];omega
abbrev LM (H:Hp)(ls:U3)(mv:List Gm):Prop:=Paired (λl m=>H l=some (.lst (mL m))) ls mv
theorem LM.same{H H':Hp}{ls:U3}{mv:List Gm}(h:LM H ls mv)(s:Same H H'):LM H' ls mv:=Paired.imp' (λ_ _ c=>s _ _ c) h
theorem Y6a(n:Nat):(List.replicate n (Str.ofString ".").cps.toList).flatten=List.replicate n 46:=by
 rw[show (Str.ofString ".").cps.toList=[46] by decide];induction n with
 | zero=>rfl
 | succ n ih=>rw[Vy,List.flatten_cons,ih];rfl
theorem rZ{z:Str}{n:Nat}(h:z.cps.toList=(List.replicate n (Str.ofString ".").cps.toList).flatten):z=dots n:=by
 rw[Y6a]at h;exact Str.ext' (Vs.mp (by rw[h]))
theorem Xb:∀c:Nat,c<4->(tS (c:Int)).length<=10/\(c:Int).natAbs.log2<1920/\Str.ofString "flip "++tS (c:Int)=Er (.mv (.flip c)):=by decide +kernel
theorem vD(o:W3):oV o=(o.map λi:Nat=>(i:Int)).map V.int:=by rw[Jq];rfl
section
variable {P:U8}{w:W1}{K:U0}{mg:U4}{base:Heap}{k:Nat}{h:Heap}{C aS:Y0}
theorem Kf:Ar ["_law_script","_law_cells","_law_word","_law_outs","_law_parts","_law_moves","_law_k","_law_line","_law_found","_law_told","_law_part","_law_holder","_law_board","_law_number"] ["_law_script"] (Bh (top 145)):=fS
theorem X6h{n:Nat}{f:Y0}{fd:FuncData}(F:Xj K "law" "law" (top 145) f fd)(B:Bs mg)(kc:Hc K C)(cP:Ag P w K mg base k "_law_cell_at" ["_law_script","_law_k"] (Ke K))(dQ:Ag P w K mg base k "_law_move" ["_law_cell","_law_cells"] KY)(dP:Ag P w K mg base k "_law_back" ["_law_move_here"] tW)(cZ:Ag P w K mg base k "_law_text" ["_law_move_here"] KN)
  (dE:Ends P w K mg base k C) (cT:Ag P w K mg base k "_law_whole" ["_law_found"] K5) (dO:Cu P w K mg base k C "told_board" ["self"] (kj K C)) (eR:Cu P w K mg base k C "take" ["self","move"] (Ib K C)) (eS:JL P w K mg base k "tell" ["text","by_signs"] Ia [.bl false]):
  Cd P w K mg base GP (k+1) f fd ["_law_script"] (GQ K n):=by
 have nd:=Kf.nd;refine F.ok Kf (λvs H Q E h=>?_) (λm4 A outer s H vs Q E G h=>?_)
 ·obtain⟨a,ns,rfl,_⟩:=h;rfl
 obtain⟨sa,ns,rfl,hS,m3,kk⟩:=h
 refine⟨_,(@K4 _ _ _ _ _ (@Bd _ _ 1 _ _ _ _ nd rfl (Or.inr rfl) (Aq Gu Ad (Aq Jj (Av cP G rfl (Ab (pv 0) (Ab Ad Ae))) Ad)) rfl (.inl rfl))
  (@K4 _ _ _ _ _ (@Bd _ _ 2 _ _ _ _ nd rfl (Or.inr rfl) (Aq Jj (Av cP G rfl (Ab (pv 0) (Ab Ad Ae))) (@Al _ _ _ _ _ _ _ DK (@Gv _ _ _ _ (@Ab _ _ _ _ _ Ad (@Ab _ _ _ _ _ Ad (@Ab _ _ _ _ _ Ad Ae rfl) rfl) rfl)) (Aq G5 (pv 1) Ad) (λ_ _=>rfl))) rfl (.inl rfl))
  (@Ak _ _ _ _ _ (@Bd _ _ 3 _ _ _ _ nd rfl (Or.inr rfl) (GD rfl (BZ.of (Nc:=["_law_k","_law_word"]) (mp:=[none,some 2]) (by kernel_rfl)) (Mq rfl B.range (Ab (pv 1) Ae)) (λ_ _ _ _=>(Ck (i:=0) (show (["_law_k","_law_word"]:W0).Nodup by decide +kernel) rfl (Or.inl rfl))) (λ_ _ _ _=>(Aq Jj (Aq Uw (pv 1) (@Al _ _ _ _ _ _ _ lF (@Gv _ _ _ _ (@Ab _ _ _ _ _ Ad (@Ab _ _ _ _ _ Ad (@Ab _ _ _ _ _ Ad Ae rfl) rfl) rfl)) (pv 0) (λ_ _=>rfl))) Ad))) rfl (.inl rfl))
  (@Ak _ _ _ _ _ (Y3t (i:=4) rfl nd rfl rfl (BZ.of (Nc:=["_law_k","_law_outs"]) (mp:=[none,some 3]) (by kernel_rfl)) (Mq rfl B.range (Ab (pv 1) Ae)) (λ_ _ _ _=>(Ck (i:=0) (show (["_law_k","_law_outs"]:W0).Nodup by decide +kernel) rfl (Or.inl rfl))) (λ_ _ _ _=>(Bq Di (Al lF (pv 1) (pv 0) (λ_ _=>rfl)) Ad (Ac _))) (λ_ _ _ _=>(Aq J6 Cg (IV PN rfl B.str K8 (Ab (pv 0) Ae)))) rfl)
  (@Ak _ _ _ _ _ (Wg (i:=5) rfl nd rfl rfl (BZ.of (Nc:=["_law_cell","_law_cells"]) (mp:=[none,some 1]) (by kernel_rfl)) (JC (J5 WR (pv 0) (Jk Ad) (Jk Ad))) (λ_ _ _ _=>(Ck (i:=0) (show (["_law_cell","_law_cells"]:W0).Nodup by decide +kernel) rfl (Or.inl rfl))) (λ_ _ _ _=>(Av dQ G rfl (Ab (Aq Jj (pv 0) (Aq wk Ad Ad)) (Ab (pv 1) Ae)))) rfl)
  (@Ak _ _ _ _ _ (@Bd _ _ 4 _ _ _ _ nd rfl (Or.inl rfl) (Aq mQ (pv 4) (GD rfl (BZ.of (Nc:=["_law_move_here"]) (mp:=[none]) (by kernel_rfl)) (JC (pv 5)) (λ_ _ _ _=>(Ck (i:=0) (show (["_law_move_here"]:W0).Nodup by decide +kernel) rfl (Or.inl rfl))) (λ_ _ _ _=>(Av cZ G rfl (Ab (pv 0) Ae))))) rfl (.inl rfl))
  (@Ak _ _ _ _ _ (@Bd _ _ 4 _ _ _ _ nd rfl (Or.inl rfl) (Aq mQ (pv 4) (GD rfl (BZ.of (Nc:=["_law_move_here"]) (mp:=[none]) (by kernel_rfl)) (X5v rfl B.reversed (Ab (pv 5) Ae)) (λ_ _ _ _=>(Ck (i:=0) (show (["_law_move_here"]:W0).Nodup by decide +kernel) rfl (Or.inl rfl))) (λ_ _ _ _=>(Av cZ G rfl (Ab (Av dP G rfl (Ab (pv 0) Ae)) Ae))))) rfl (.inl rfl))
  (@Ak _ _ _ _ _ (Jv PassesOwn.never rfl (Mq rfl B.range (Ab (pv 1) Ae)) (Ck (i:=6) nd rfl (Or.inl rfl))
   (@Aj _ _ _ (Hg (Iu V2 V3 V5 Qe (pv 4) (Ab (Aq J6 (Aq J6 (Aq J6 Cg (Aq sY Cg (pv 6))) Cg) (Aq sY Cg (Aq G5 (Aq G5 (pv 1) Ad) (pv 6)))) Ae)))))
  (@Ak _ _ _ _ _ (@Bd _ _ 7 _ _ _ _ nd rfl (Or.inl rfl) (Aq J6 (Aq J6 (IV PN rfl B.str K8 (Ab (pv 1) Ae)) Cg) (Iu Kp QD QF QV Cg (Ab (pv 4) Ae))) rfl (.inl rfl))
  (@Ak _ _ _ _ _ (@Bd _ _ 8 _ _ _ _ nd rfl (Or.inl rfl) (tG dE.d1 G rfl (Ab (pv 7) Ae)) rfl (.inl rfl))
  (@Ak _ _ _ _ _ (CQ (PW.pt (Fv (E_ (Dv (Cm J7 rfl B.isinstance Ik (Ab (pv 8) (Ab (I_ (v:=.ty "list") rfl B.list Ph rfl) Ae))))) (Fv (Bq Jh (Cm IW rfl B.len Fz (Ab (pv 8) Ae)) Ad (Ac _)) (Fv (E_ (Dv (Cm Ai.lu rfl B.isinstance Ik (Ab (Al DK (pv 8) Ad (λ_ _=>rfl)) (Ab (I_ (v:=.ty "tuple") rfl B.tuple OD rfl) Ae))))) (Iw (Bq Jh (Cm IW rfl B.len Fz (Ab (Al DK (pv 8) Ad (λ_ _=>rfl)) Ae)) Ad (Ac _)))))))
   (@Aj _ _ _ (Ay Ji))
   CT)
  (@Ak _ _ _ _ _ (X5s (Al DK (pv 8) Ad (λ_ _=>rfl)) (O8 rfl (IK (Ck (i:=9) nd rfl (Or.inl rfl)) (IK (Ck (i:=10) nd rfl (Or.inl rfl)) (IK (Ck (i:=11) nd rfl (Or.inl rfl)) PB)))))
  (@Ak _ _ _ _ _ (CQ (PW.pt (Fv (E_ (Dv (Cm Ai.lu rfl B.isinstance Ik (Ab (pv 9) (Ab (I_ (v:=.ty "tuple") rfl B.tuple OD rfl) Ae))))) (Iw (Bq (X2h G.units) (wu rfl (BZ.of (Nc:=["_law_out"]) (mp:=[none]) (by kernel_rfl)) (Mj (pv 9)) (λ_ _ _ _=>(Ck (i:=0) (show (["_law_out"]:W0).Nodup by decide +kernel) rfl (Or.inl rfl))) (λ_ _ _ _=>(E_ (Dv (Av cT G rfl (Ab (pv 0) Ae))))) (λ_ _ _ _=>(pv 0))) (@Gv _ _ _ _ Ae) (Ac _)))))
   (@Aj _ _ _ (Ay Ji))
   CT)
  (@Ak _ _ _ _ _ (CQ (PW.pt (Fv (Bq (Ul G.units) (pv 9) (IV qu rfl B.tuple OD (Ab (pv 3) Ae)) (Ac _)) (Fv (Bq (Ul G.units) (pv 10) (@Fw _ _ _ _ _ (Ab Ad (Ab Ad (Ab Ad Ae)))) (Ac _)) (Iw (Bq (Ul G.units) (La (pv 11) rfl) (@Fw _ _ _ _ _ (Ab Ad (Ab Ad (Ab Ad Ae)))) (Ac _))))))
   (@Aj _ _ _ (Ay Ji))
   CT)
  (@Ak _ _ _ _ _ (@Bd _ _ 12 _ _ _ _ nd rfl (Or.inl rfl) (tK dO G (pv 11)) rfl (.inl rfl))
  (@Ak _ _ _ _ _ (CQ (PW.pt (Fv (E_ (Dv (Cm J7 rfl B.isinstance Ik (Ab (pv 12) (Ab (I_ (v:=.ty "list") rfl B.list Ph rfl) Ae))))) (Iw (Bq Jh (Cm IW rfl B.len Fz (Ab (pv 12) Ae)) (@Al _ _ _ _ _ _ _ DK (@Gv _ _ _ _ (@Ab _ _ _ _ _ Ad (@Ab _ _ _ _ _ Ad (@Ab _ _ _ _ _ Ad Ae rfl) rfl) rfl)) (Aq G5 (pv 1) Ad) (λ_ _=>rfl)) (Ac _)))))
   (@Aj _ _ _ (Ay Ji))
   CT)
  (@Ak _ _ _ _ _ (Jv PassesOwn.never rfl (Mq rfl B.range (Ab (Cm IW rfl B.len Fz (Ab (pv 12) Ae)) Ae)) (Ck (i:=6) nd rfl (Or.inl rfl))
   (@Ak _ _ _ _ _ (CQ (PW.pt (Fv (E_ (Dv (Cm Ai.lu rfl B.isinstance Ik (Ab (Al DK (pv 12) (pv 6) (λ_ _=>rfl)) (Ab (I_ (v:=.ty "tuple") rfl B.tuple OD rfl) Ae))))) (Iw (Bq (Ul G.units) (Al DK (pv 12) (pv 6) (λ_ _=>rfl)) (@Fw _ _ _ _ _ (Ab (IV Y6n rfl B.int RZ (Ab (JB Di (pv 6) (pv 2) (Ac _)) Ae)) (Ab Ad (Ab Ad (Ab Ad (Ab Ad Ae)))))) (Ac _)))))
    (@Aj _ _ _ (Ay Ji))
    CT)
   (@Aj _ _ _ (Jv PassesOwn.never rfl (Mj (Al DK (pv 12) (pv 6) (λ_ _=>rfl))) (Ck (i:=13) nd rfl (Or.inl rfl))
    (@Aj _ _ _ (CQ (E_ (Dv (Av cT G rfl (Ab (pv 13) Ae))))
     (@Aj _ _ _ (Ay Ji))
     CT))))))
  (@Ak _ _ _ _ _ (Hg (QS eR G (pv 11) (Ab (@Fw _ _ _ _ _ (Ab Cg (Ab Ad Ae))) Ae)))
  (@Aj _ _ _ (Ay (JB Di (tG eS G rfl (Ab (pv 7) Ae)) (Aq J6 (Iu Kp QD QF QV Cg (Ab (GD rfl (BZ.of (Nc:=["_law_out"]) (mp:=[none]) (by kernel_rfl)) (JC (pv 3)) (λ_ _ _ _=>(Ck (i:=0) (show (["_law_out"]:W0).Nodup by decide +kernel) rfl (Or.inl rfl))) (λ_ _ _ _=>(IV PN rfl B.str K8 (Ab (pv 0) Ae)))) Ae)) Cg) (Ac _)))))))))))))))))))))),?_⟩
 try dsimp only[Bg]
 refine⟨λσ' H'=>H'=H/\∃c:Nat,1<=c/\c<=3/\σ'=[some (.ref sa),some (.int c),none,none,none,none,none,none,none,none,none,none,none,none],?_,?_⟩
 ·obtain⟨c,hc,ec⟩:=QL (x:=cell ns 0) (c:=3) (by decide);refine⟨_,U,sa,ns,0,U,hS,by decide,_,_,U,U,(show (0:Int)<3 by decide),_,_,U,U,U,c+1,by omega,by omega,?_⟩;rw[show ((c+1:Nat):Int)=1+cell ns 0%3 by rw[show cell ns 0%3=(c:Int) from ec];omega];rfl
 rintro σ' H' ⟨rfl,c,c1,c3,rfl⟩;refine⟨λσ' H2=>Same H' H2/\∃w:Nat,w<2^c/\σ'=[some (.ref sa),some (.int c),some (.int w),none,none,none,none,none,none,none,none,none,none,none],?_,?_⟩
 ·obtain⟨w,wc,ew⟩:=QL (x:=cell ns 1) (c:=2^c) (Kh c);refine⟨_,U,sa,ns,1,U,hS,by decide,(show 3<=sizeLine by decide),λl3 T=>⟨_,U,_,_,U,U,l3,_,_,_,U,U,Af.of Ao,NT c1 c3,_,_,U,U,(by show (0:Int)<((2^c:Nat):Int);have:=Kh c;omega),Ax T _,w,wc,?_⟩⟩;rw[<-ew];rfl
 rintro σ' H2 ⟨S2,w,wc,rfl⟩;have w8:w<8:=GC wc (QC (by decide) c3:2^c<=2^3);have k':=S2.seq hS;refine⟨_,U,_,U,by omega,by omega,λlo i6=>?_⟩;rw[J2];refine Ut (lo:=0) (n:=c) (fr:=[some (.int w)]) (λi ys H'=>Same H2 H'/\H' lo=some (.lst ys)/\ys=(List.range i).map λj=>V.int (bt w j:Nat)) (Cv c3 (by decide)) ⟨Ax i6 _,Ao,U⟩ ?_ ?_
 ·rintro i ys I N hi M ⟨d,g,rfl⟩ J;rw[show (0:Int)+(i:Int)=(i:Int) by omega];refine⟨_,U,(show 3<=sizeLine by decide),λl3 T=>⟨_,U,l3,_,_,_,U,U,Af.of Ao,R4 (by omega),_,_,U,U,ZF (by omega),_,_,U,U,(show (0:Int)<2 by decide),?_⟩⟩;have e:Int.fdiv (w:Int) ((2^i:Nat):Int)%2=((bt w i:Nat):Int):=by
   rw[Y_ _ (Int.natCast_nonneg _),<-Int.natCast_ediv];show (((w / 2^i:Nat):Int))%2=((w / 2^i%2:Nat):Int);rw[Int.natCast_emod];rfl
  show N (V.int (Int.fdiv (w:Int) ((2^i:Nat):Int)%2)) _;rw[e];have s3:=Ax T (.lst [V.int 1,V.int 2,V.int 4]);exact J _ _ (s3 _ _ g) ⟨Et (d.trans s3) i6,Ao,by rw[Pr,Dn];rfl⟩
 rintro ys H3 M ⟨S3,D,rfl⟩;clear M;have D:H3 lo=some (.lst (oV (outs c w))):=by
  rw[D];show _=some (HO.lst (((List.range c).map λk=>bt w k).map λi:Nat=>V.int (i:Int)));rw[Jq];rfl
 have ln:(outs c w).length=c:=by unfold outs;rw[BJ,Kl]
 refine⟨_,U,_,U,by omega,by omega,λlp i0=>?_⟩;rw[J2];refine Y5j (lo:=0) (n:=c) (fr:=[some (.ref lo)]) (λi ys H'=>Same H3 H'/\H' lp=some (.lst ys)/\ys=((List.range i).filter λj=>bt w j == 1).map λj=>V.str (Er (.mv (.flip j)))) (Cv c3 (by decide)) ⟨Ax i0 _,Ao,U⟩ ?_ (λh q=>?_) ?_
 ·rintro i ys I N hi M ⟨d,g,rfl⟩ J;rw[show (0:Int)+(i:Int)=(i:Int) by omega]at J ⊢;obtain⟨_,lg,ef⟩:=Xb i (by omega);have f1:((List.range (i+1)).filter λj=>bt w j == 1)=((List.range i).filter λj=>bt w j == 1)++(if (bt w i == 1)=true then [i] else []):=by
   rw[Pr,Rr];congr 1;exact List.filter_cons
  refine⟨_,U,_,U,lo,_,_,_,U,U,Af.of (d _ _ D),O_ (v:=V.int (bt w i:Nat)) (by rw[Dw];unfold outs;rw[Dw,List.getElem?_range hi];rfl),U,_,U,J _ I (λhb=>?_) (λhb=>?_)⟩
  ·have h8:(bt w i == 1)=true:=by
    have e:(bt w i:Int)=1:=V.int.inj (Rp hb);have e:bt w i=1:=by omega
    rw[e];rfl
   refine⟨_,U,_,U,lg,_,_,U,U,small (by have:=(Xb i (by omega)).1;have e5:(Str.ofString "flip ").length=5:=(by decide);show (Str.ofString "flip ").length+(tS (i:Int)).length<=40000;omega),g,Et d i0,Ao,?_⟩
   rw[f1,if_pos h8,Dn];show _++[V.str (Str.ofString "flip "++tS (i:Int))]=_++[V.str (Er (.mv (.flip i)))];rw[ef]
  ·have h8:¬ (bt w i == 1)=true:=by
    have e:=of_decide_eq_false hb;intro z;have z:bt w i=1:=by simpa using z
    exact e (by rw[z];rfl)
   exact⟨d,g,by rw[f1,if_neg h8,Rm]⟩
 ·obtain⟨v,e,i,e2,lg,a,b,e3,e4,sz,q⟩:=q;exact⟨v,e,i,e2,lg,a,b,e3,e4,sz,h _ _ q⟩
 rintro ys H4 ⟨S4,b9,rfl⟩;have b9:H4 lp=some (.lst (((MK (HN c w)).map Er).map V.str)):=by
  rw[b9];show _=some (HO.lst ((((HN c w).map λk=>Gm.mv (.flip k)).map Er).map V.str));rw[Jq,Jq];rfl
 have O:=S4 _ _ D;have f4:=S3.trans S4;obtain⟨ms,k5,ml⟩:=X4d ns;refine⟨_,U,2,U,12,U,sa,_,U,f4.seq k',λcp k4=>?_⟩;rw[k5];have s5:=Ax k4 (.lst (ms.map V.int));have c7:upd H4 cp (.lst (ms.map V.int)) cp=some (.lst (ms.map V.int)):=Ao;generalize upd H4 cp (.lst (ms.map V.int))=H5 at s5 c7 ⊢;refine⟨cp,U,⟨_,Af.of c7⟩,λlm f8=>?_⟩;refine QT (K:=K) (a:=cp) (xs:=ms.map V.int) (λi ys H'=>Same H5 H'/\H' lm=some (.lst ys)/\∃(X:U3) (mv:List Gm),ys=X.map V.ref/\LM H' X mv/\mv.length=i/\(∀m∈mv,m.Ok c)/\∀l∈X,l≠lm) (Cv (by rw[BJ];exact ml) (by decide)) ⟨Ax f8 _,Ao,[],[],U,.nil,U,(λm hm=>by cases hm),(λl u=>by cases u)⟩ (λi ys H e=>Af.of (e.1 _ _ c7)) ?_ ?_
 ·rintro i x ys I N S M ⟨d,g,X,mv,rfl,L,b3,ok,f2⟩ J;rw[Dw]at S;obtain⟨x,_,rfl⟩:=GZ.mp S;refine⟨_,U,_,_,U,U,⟨by decide,by decide,by decide⟩,_,_,U,U,(show (0:Int)<10^(9:Int).toNat by decide),_,U,_,c,U,Pq _ (by decide),c1,c3,λl H6 m u S6 b0 e6=>?_⟩;have a6:=S6 _ _ g;have nl:l≠lm:=λz=>by rw[z,g]at u;cases u
  refine J _ _ a6 ⟨Et (d.trans S6) f8,Ao,X++[l],mv++[m],by rw[Dn];rfl,?_,by rw[G3,b3];rfl,λm' m0=>?_,λl' k8=>?_⟩
  ·have up:∀(l':Y0) (m':Gm),l'≠lm->H6 l'=some (.lst (mL m'))->upd H6 lm (.lst (X.map V.ref++[V.ref l])) l'=some (.lst (mL m')):=λl' m' n e=>by rw[CK n];exact e
   have L6:=L.same S6;clear L a6 g;refine qU ?_ (.cons (up _ _ nl e6) .nil);generalize upd H6 lm (.lst (X.map V.ref++[V.ref l]))=HU at up;clear e6 ok b3 J M;induction L6 with
   | nil=>exact .nil
   | cons h _ ih=>exact .cons (up _ _ (f2 _ (by simp)) h) (ih λl u=>f2 l (Hx _ u))
  ·rcases K9.mp m0 with h | h
   ·exact ok m' h
   ·rw[Ko.mp h];exact b0
  ·rcases K9.mp k8 with h | h
   ·exact f2 l' h
   ·rw[Ko.mp h];exact nl
 rintro ys H6 M ⟨S6,d8,X,mv,rfl,L6,b3,b0,_⟩;clear M;have b4:mv.length<=10:=by rw[b3,BJ];exact ml
 have a5:X.length=mv.length:=Paired.length L6;have b8:=s5.trans S6;have i8:=b8 _ _ b9;have j':=b8 _ _ O;have i7:=f4.trans b8;clear b8 f4 c7 s5 S6 b9 O D k5 b3 f8 k4 i0 i6 S3 S4;refine⟨_,U,_,U,lm,U,⟨_,Af.of d8⟩,λa1 h1=>?_⟩;refine QT (K:=K) (a:=lm) (xs:=X.map V.ref) (λi ys H'=>Same H6 H'/\H' a1=some (.lst ys)/\ys=((mv.take i).map Er).map V.str) (Cv (by rw[BJ,a5];exact b4) (by decide)) ⟨Ax h1 _,Ao,U⟩ (λi ys H e=>Af.of (e.1 _ _ d8)) ?_ ?_
 ·rintro i x ys I N S M ⟨d,g,rfl⟩ J;rw[Dw]at S;obtain⟨l,u,rfl⟩:=GZ.mp S;obtain⟨m,hm,el⟩:=Uz L6 u;refine⟨_,U,l,m,U,d _ _ el,Kv c3 (b0 m (Il hm)),λH7 S7=>J _ _ (S7 _ _ g) ⟨Et (d.trans S7) h1,Ao,?_⟩⟩;rw[Km,hm,QB,Dn,Dn];rfl
 rintro ys H7 M ⟨S7,a7,rfl⟩;clear M;rw[BJ,a5,Lw]at a7;refine⟨lp,a1,_,_,U,U,S7 _ _ i8,a7,?_,λp2 h2=>?_⟩
 ·rw[BJ,BJ,BJ,BJ];exact small (by have:=Rx (λk=>bt w k == 1) (List.range c);rw[Kl]at this;show (HN c w).length+_<=40000;unfold HN;rw[BJ];omega)
 have m2:(HN c w).length<=3:=by
  have:=Rx (λk=>bt w k == 1) (List.range c);rw[Kl]at this;unfold HN;omega
 rw[<-Dn,<-Dn];have s8:=Ax h2 (.lst (((MK (HN c w)++mv).map Er).map V.str));have e8:upd H7 p2 (.lst (((MK (HN c w)++mv).map Er).map V.str)) p2=some (.lst (((MK (HN c w)++mv).map Er).map V.str)):=Ao;generalize upd H7 p2 (.lst (((MK (HN c w)++mv).map Er).map V.str))=H8 at s8 e8 ⊢;have Y:=S7.trans s8;have f3:=Y _ _ d8;have k3:=Y _ _ j';have L8:=L6.same Y;have j3:=i7.trans Y;clear Y s8 S7 i7 a7 L6 d8 j' i8;refine⟨_,U,_,U,lm,_,U,Af.of f3,λa3 T=>?_⟩;refine X6q (K:=K) (a:=lm) (xs:=X.map V.ref) (λi ys H'=>Same H8 H'/\H' a3=some (.lst ys)/\ys=(((backs mv).take i).map Er).map V.str) (Cv (by rw[BJ,a5];exact b4) (by decide)) ⟨Ax T _,Ao,U⟩ (λi ys H e=>Af.of (e.1 _ _ f3)) ?_ ?_
 ·rintro i x ys I N S M ⟨d,g,rfl⟩ J;rw[<-List.map_reverse,Dw]at S;obtain⟨l,u,rfl⟩:=GZ.mp S;have hi:i<X.length:=by have:=(Fb.mp u).1;rw[Yp]at this;exact this
  rw[Yu hi]at u;obtain⟨m,hm,el⟩:=Uz L8 u;have mo:=b0 m (Il hm);refine⟨_,U,l,m,c,U,d _ _ el,mo,λr H9 S9 e9=>?_⟩;refine⟨r,m.back,U,e9,Kv c3 (Ai.rM mo),λH7 S7=>J _ _ ((S9.trans S7) _ _ g) ⟨Et (d.trans (S9.trans S7)) T,Ao,?_⟩⟩;have eb:(backs mv)[i]?=some m.back:=by
   show (mv.reverse.map Gm.back)[i]?=_;rw[Dw,Yu (by omega),<-a5,hm];rfl
  rw[Km,eb,QB,Dn,Dn];rfl
 rintro ys H9 M ⟨S9,a9,rfl⟩;clear M;have bl:(backs mv).length=mv.length:=by show (mv.reverse.map Gm.back).length=_;rw[BJ,Yp]
 rw[BJ,a5,<-bl,Lw]at a9;refine⟨p2,a3,_,_,U,U,S9 _ _ e8,a9,?_,λp3 f5=>?_⟩
 ·rw[BJ,BJ,BJ,BJ,G3,BJ,bl];exact small (by omega)
 rw[<-Dn,<-Dn];have h6:=Ax f5 (.lst (((Je c w mv).map Er).map V.str));have c5:=S9 _ _ k3;have i1:=j3.trans S9;have n3:H2 p3=none:=i1.free f5;have h7:upd H9 p3 (.lst (((Je c w mv).map Er).map V.str)) p3=some (.lst (((Je c w mv).map Er).map V.str)):=Ao;have a4:=h6 _ _ c5;have k6:lo≠p3:=λz=>by rw[z,f5]at c5;cases c5
 have a8:=i1.trans h6;clear h6 i1 S9 j3 a9 L8 f3 k3 c5 e8;generalize upd H9 p3 (.lst (((Je c w mv).map Er).map V.str))=H10 at h7 a4 a8 ⊢;refine⟨_,U,_,U,by omega,by omega,?_⟩;rw[J2];have ll:(Je c w mv).length<=60:=by
  show (MK (HN c w)++mv++backs mv).length<=60;rw[G3,G3,BJ,bl];omega
 refine lQ (lo:=0) (n:=c) (λi σ H'=>∃v6,σ=[some (.ref sa),some (.int c),some (.int w),some (.ref lo),some (.ref p3),some (.ref lm),v6,none,none,none,none,none,none,none]/\Same H2 H'/\H' lo=some (.lst (oV (outs c w)))/\H' p3=some (.lst (((Je c w mv).map Er++(List.range i).map (L_ c)).map V.str))) ⟨none,U,a8,a4,by rw[h7];simp⟩ ?_ ?_
 ·rintro i σ I hi ⟨v6,rfl,d,d2,g⟩;rw[show (0:Int)+(i:Int)=(i:Int) by omega];have ld:(Str.ofString ".").length<=100:=by decide
  obtain⟨_,_,_,lz,ez⟩:=wX c (by omega) i hi;refine⟨_,U,.inl ⟨U,_,Af.of g⟩,_,U,_,_,U,U,by omega,by omega,ld,λz1 d3=>?_⟩;rw[J2]at d3;have d3:=rZ d3;subst d3;have lA:(Str.ofString "look +").length=6/\(Str.ofString "s").length=1:=by decide
  have d6:∀n:Nat,(dots n).length=n:=λn=>by show (List.replicate n 46).toArray.size=n;simp
  refine⟨_,_,U,U,small (by rw[lA.1,d6];omega),_,_,U,U,small (by rw[Str.length_append,lA.1,lA.2,d6];omega),?_⟩;refine⟨_,U,_,_,U,U,_,U,_,_,U,U,_,_,U,U,by omega,by omega,ld,λz2 c8=>?_⟩;rw[show (c:Int)-1-(i:Int)=((c-1-i:Nat):Int) by omega,J2]at c8;have c8:=rZ c8;subst c8;refine⟨_,_,U,U,small (by rw[Str.length_append,Str.length_append,lA.1,lA.2,d6,d6];omega),p3,_,_,U,U,g,small (by rw[BJ,G3,BJ,BJ,Kl];omega),?_⟩;rw[ez];refine⟨_,U,Et d n3,by rw[CK k6];exact d2,?_⟩;rw[Ao];simp only[Pr,Dn,Yi,Ls,YC]
 rintro σ I ⟨v6,rfl,d,d2,g⟩;clear h7 a4 a8;obtain⟨BK,jk,jl⟩:=_M (w:=w) c1 c3 wc b0 b4;obtain⟨tl,lg,_⟩:=Xb c (by omega);refine⟨_,U,_,U,lg,_,_,U,U,small (by rw[show (Str.ofString ":").length=1 by decide];show (tS (c:Int)).length+1<=40000;omega),U,_,U,_,_,_,U,U,Af.of g,jk,_,_,U,U,small (by rw[Str.length_append,show (Str.ofString ":").length=1 by decide];show (tS (c:Int)).length+1+(Txt.join (Str.ofString ";") (lps c w mv)).length<=40000;omega),?_⟩;show _;change Bf 7 (V.str (Dh c (lps c w mv))) _ _ _;refine⟨_,U,_,c,w,_,U,BK,λHE l t ao ch a dx lb ps SE u ht ho hc ha BD=>?_⟩;have f6:=SE _ _ d2;clear d2 g d jk jl tl lg;rw[vD]at ho f6;refine⟨_,U,_,_,_,true,U,CZ.lst u,mK K,_,U,Bc ?_⟩;refine⟨_,U,l,_,U,.inl (Af.of u),U,_,U,Ks (λe=>absurd rfl e) (λ_=>?_)⟩;refine⟨_,U,l,_,_,_,U,U,Af.of u,U,t,_,U,Ah.of ht,_,U,Bc ?_⟩;refine⟨_,U,l,_,_,_,U,U,Af.of u,U,t,_,U,.inr (Ah.of ht),U,_,U,Ks (λe=>absurd rfl e) (λ_=>?_)⟩;refine⟨_,U,l,_,_,_,U,U,Af.of u,U,t,_,U,Ah.of ht,U,_,_,U,_,_,U,_,_,U,U,?_⟩;refine⟨_,U,ao,_,U,ho,_,U,Bc ?_⟩;refine⟨_,U,ao,U,⟨_,ho⟩,λa0 h0=>?_⟩;refine _V h0 ho (by rw[BJ,BJ,ln];exact Cv c3 (by decide)) (λz I N hz d J=>?_) (λk7 j0 i9=>?_)
 ·obtain⟨j,_,rfl⟩:=Hu.mp hz;exact⟨_,U,j,U,_,U,J⟩
 refine⟨Dz _,λe0 i5=>⟨a0,e0,[],[],U,U,Af.of (Ax i5 _ _ _ i9),Af.of Ao,_,U,Bc ?_⟩⟩;have W:=j0.trans (Ax i5 (.lst []));have d0:=W _ _ f6;have f0:=W.tup ho;have c9:=W.tup hc;have d4:=W _ _ ha;have i3:=BD.same W;generalize upd k7 e0 (.lst [])=H12 at d0 f0 c9 d4 i3 ⊢;clear j0 i9 i5 h0 W f6 ho hc ha BD u ht;refine⟨_,U,_,U,lo,_,U,.inl ⟨Af.of d0,λtp b5=>⟨ao,tp,_,_,U,U,(Ax b5 _).tup f0,Ah.of Ao,_,U,Js (λq=>absurd q (by simp)) (λ_=>?_)⟩⟩⟩;have c4:=Ax b5 (.tup (((outs c w).map λi:Nat=>(i:Int)).map V.int));generalize upd H12 tp (.tup (((outs c w).map λi:Nat=>(i:Int)).map V.int))=H13 at c4 ⊢;refine⟨_,U,(show 3<=sizeLine by decide),λt3 T=>⟨ch,t3,[1,0,1],[1,0,1],U,U,(c4.trans (Ax T _)).tup c9,Ah.of Ao,_,U,Bc ?_⟩⟩;have Z:=c4.trans (Ax T (.tup [.int 1,.int 0,.int 1]));generalize upd H13 t3 (.tup [.int 1,.int 0,.int 1])=H14 at Z ⊢;refine⟨_,U,a,C,dx,_,_,U,Z _ _ d4,kc.cls,kc.n2,U,(show 3<=sizeLine by decide),λt4 h4=>⟨ch,t4,[1,0,1],[1,0,1],U,U,(Z.trans (Ax h4 _)).tup c9,Ah.of Ao,_,U,Bc ?_⟩⟩;have b2:=Z.trans (Ax h4 (.tup [.int 1,.int 0,.int 1]));generalize upd H14 t4 (.tup [.int 1,.int 0,.int 1])=H15 at b2 ⊢;have c0:=b2 _ _ d4;have f':=i3.same b2;have D:=b2 _ _ d0;clear c4 Z b5 T h4 b2 d4 i3 d0 c9 f0;refine⟨_,U,a,dx,_,U,c0,U,a,dx,ch,lb,c,_,U,c0,Af.of f'.lst,λr m1=>?_⟩;have b1:=Ax m1 (.lst (ps.map V.ref));have Ov:upd H15 r (.lst (ps.map V.ref)) r=some (.lst (ps.map V.ref)):=Ao;have i4:=b1 _ _ c0;have b7:=f'.same b1;have O:=b1 _ _ D;generalize upd H15 r (.lst (ps.map V.ref))=H16 at b1 Ov i4 b7 O ⊢;clear b1 c0 f' D;refine⟨_,U,_,_,_,true,U,CZ.lst Ov,mK K,_,U,Bc ?_⟩;have pl:(ps.map V.ref).length=2^c:=by rw[BJ];exact b7.len
 refine⟨_,U,r,_,U,.inl (Af.of Ov),(show 3<=sizeLine by decide),λl3 T=>⟨_,U,_,_,U,U,l3,_,_,_,U,U,Af.of Ao,NT c1 c3,U,_,U,Ks (λe=>absurd (by rw[pl]) e) (λ_=>?_)⟩⟩;have a2:=Ax T (.lst [V.int 2,V.int 4,V.int 8]);have e7:=a2 _ _ Ov;have i2:=a2 _ _ i4;have e1:=b7.same a2;have d5:=a2 _ _ O;generalize upd H16 l3 (.lst [V.int 2,V.int 4,V.int 8])=H17 at e7 i2 e1 d5 ⊢;clear a2 T Ov i4 b7 O;refine⟨_,U,r,_,U,.inl (Af.of e7),_,U,by omega,by rw[pl];have:=QC (show 0<2 by decide) c3;omega,?_⟩;refine lQ (lo:=0) (n:=(ps.map V.ref).length) (λi σ H'=>Same H17 H'/\∃v6 b6,σ=[some (.ref sa),some (.int c),some (.int w),some (.ref lo),some (.ref p3),some (.ref lm),v6,some (.str (Dh c (lps c w mv))),some (.ref l),some (.ref ao),some (.ref ch),some (.ref a),some (.ref r),b6]) ⟨Same.refl _,_,_,U⟩ ?_ ?_
 ·rintro i σ I hi ⟨d,v6,b6,rfl⟩;rw[show (0:Int)+(i:Int)=(i:Int) by omega];have eX:=d _ _ e7;obtain⟨p,hp⟩:∃p,ps[i]?=some p:=⟨ps[i]'(by rw[BJ]at hi;exact hi),Gp _⟩;have ap:Ah K I p ((l5 (st w i)).map V.int):=d.tup (e1.vals i p hp);have f7:Ez (ps.map V.ref) (i:Int)=some (V.ref p):=O_ (by rw[Dw,hp];rfl);refine⟨_,U,_,U,r,_,_,_,U,U,Af.of eX,f7,p,_,U,ap,_,U,Bc ?_⟩;refine⟨_,U,_,U,r,_,_,_,U,U,Af.of eX,f7,_,U,_,U,U,.inr ⟨_,U,(show 5<=sizeLine by decide),λt5 h5=>?_⟩⟩;rw[X7s];have d7:=Ax h5 (.tup ((l5 (st w i)).map V.int));have j2:=d.trans d7;refine⟨p,t5,_,_,U,U,d7.tup ap,Ah.of Ao,_,U,Js (λq=>absurd q (by simp)) (λ_=>?_)⟩;have eY:=d7 _ _ eX;have aq:=d7.tup ap;generalize upd I t5 (.tup ((l5 (st w i)).map V.int))=HY at j2 eY aq ⊢;refine⟨_,U,_,U,r,_,_,_,U,U,Af.of eY,f7,p,U,⟨_,aq⟩,j4 (K:=K) (a:=p) (xs:=(l5 (st w i)).map V.int) (λj σ H'=>H'=HY/\∃b6,σ=[some (.ref sa),some (.int c),some (.int w),some (.ref lo),some (.ref p3),some (.ref lm),some (.int i),some (.str (Dh c (lps c w mv))),some (.ref l),some (.ref ao),some (.ref ch),some (.ref a),some (.ref r),b6]) ⟨U,_,U⟩ (λj σ H' _ e=>by rw[e.1];exact aq) ?_ ?_⟩
  ·rintro j x σ HZ S ⟨rfl,i',rfl⟩;obtain⟨y,_,rfl⟩:=Hu.mp (Il S);exact⟨_,U,y,U,_,U,Bc ⟨U,_,U⟩⟩
  ·rintro σ HZ ⟨rfl,i',rfl⟩;exact⟨j2,_,_,U⟩
 rintro σ I ⟨d,v6,b6,rfl⟩;have d9:=d _ _ i2;refine⟨_,U,a,dx,_,U,d9,U,(show 2<=sizeLine by decide),λtp b5=>?_⟩;have R:=Ax b5 (.tup [V.str "flip",V.int 0]);refine⟨a,dx,ch,lb,tp,ps,st w,c,100,40,.mv (.flip 0),U,R _ _ d9,Ao,c1,(e1.same d).same R,by omega,by decide,by decide,λk9 j1=>?_⟩;have e':k9 lo=some (.lst (((outs c w).map λi:Nat=>(i:Int)).map V.int)):=j1 _ _ (by rw[CP.Gs (Gg ((d.trans R) _ _ d5) (R _ _ d9) (by intro z;cases z))];exact(d.trans R) _ _ d5);clear R j1 d9 d i2 e1 d5 e7;refine⟨_,U,_,c,w,_,U,BK,λHT ST=>⟨U,_,U,lo,U,⟨_,Af.of (ST _ _ e')⟩,λa9 h9=>?_⟩⟩;obtain⟨jk,_,ol,o2⟩:=j9 c (by omega) c1 w w8;refine QT (K:=K) (a:=lo) (xs:=((outs c w).map λi:Nat=>(i:Int)).map V.int) (λi ys H'=>Same HT H'/\H' a9=some (.lst ys)/\ys=(((outs c w).take i).map λi:Nat=>tS i).map V.str) (by rw[BJ,BJ,ln];exact Cv c3 (by decide)) ⟨Ax h9 _,Ao,U⟩ (λi ys H e=>Af.of (e.1 _ _ (ST _ _ e'))) ?_ ?_
 ·rintro i x ys I N S M ⟨d,g,rfl⟩ J;rw[<-vD,Dw]at S;obtain⟨o,ho,rfl⟩:=GZ.mp S;have lg:(o:Int).natAbs.log2<1920:=(Xb o (by have:=o2 o (Il ho);omega)).2.1;refine⟨_,U,_,U,lg,J _ _ g ⟨Et d h9,Ao,?_⟩⟩;rw[Km,ho,QB,Dn,Dn];rfl
 rintro ys I M ⟨d,g,rfl⟩;rw[BJ,BJ,Lw]at g;refine⟨_,a9,_,U,U,Af.of g,jk,_,_,U,U,small (by rw[show (Str.ofString " 1 0 1").length=6 by decide];show (V9 (outs c w)).length+6<=40000;omega),U,?_⟩;have e:decide (V.str (LK (outs c w))=V.str (Txt.join (Str.ofString "") ((outs c w).map λi:Nat=>tS i)++Str.ofString " 1 0 1"))=true:=Jc rfl;show Q (.bl (decide _)) I;rw[e];exact kk I
end
end Br
namespace L2
theorem Cz{K:U0}{C:Y0}{m q:Str}{st:Stmt}{dV:W2}{f:Y0}{oc:W2}{od an:W5}{kV doc pm cdv ct:W2}{osl:W4}
  (l:K.lookup f=some ⟨oc,od,.func (PySem.W.fnOf m q (Cr st) (Cj st) (Bh st) dV kV doc pm an cdv ct),osl⟩) (c:PySem.W.codeIn K cdv q=true) (a:PySem.W.findIn K (.ref C) m=some (some (.ref f))) (n:PySem.W.isFn K (.ref f)=true) (k:PySem.W.keepIn K (.ref f)=true):MethAt K C m q st dV :=
 ⟨f,oc,od,kV,doc,pm,an,cdv,ct,osl,l,c,a,n,k⟩
end L2
namespace Ai
open L2
theorem Nh{K:U0}{a:Y0}{od:W5}{sl:W4}{n:Nat}{v1 v2 v3 v4 v5:Int}{t1 t2 t3 t4 t5:Tok}(h:K.lookup a=some ⟨.type "tuple",od,.seq #[.int v1 t1,.int v2 t2,.int v3 t3,.int v4 t4,.int v5 t5] n,sl⟩)(H:Hp):Ce K H a ((v1,v2,v3,v4),v5):=
 .inr ⟨_,_,_,h,U,U,(show 5<=sizeLine by decide),.cons ⟨_,U⟩ (.cons ⟨_,U⟩ (.cons ⟨_,U⟩ (.cons ⟨_,U⟩ (.cons ⟨_,U⟩ .nil))))⟩
theorem Y2m{K:U0}{D:Y0}{oc:W2}{od:W5}{n:Nat}{sl:W4}{d0:Tok}(l:K.lookup D=some ⟨oc,od,.seq #[.int 0 d0] n,sl⟩):Gz K "__init__" "AmountHolder.__init__" (BP (top 114) 0) (.ref D) ["self","cells","word"] [.int 0 d0]:=by
 intro kV e h i f ct s us g d;have c:us.length=2:=by simpa using d
 match us,c with
 | [a,b],_=>exact BindsTo.of_defaults rfl (g _ _ l) rfl rfl rfl
abbrev GQ:=@Br.GQ
end Ai
noncomputable section
namespace Ai
open L2
variable{l:PySem.W.OpenLaw}
theorem X8b{w:W1}{K:U0}{h:Heap}{mg:U4}{fa f:Y0}(X:K.In h)(G:Ng h mg)(hfa:mg "law"=some (.ref fa))
  {od an:W5}{sl:W4}{oc kV dc pm cd ct:W2}{aN aO aZ Dd:Y0}{odO odZ odD:W5}{slO slZ slD:W4}{ocD:W2}{nO nZ nD:Nat}{d0 o1 o2 o3 o4 o5 y1 y2 y3 y4 y5:Tok}{nN:Nat}{a1 a2 a3 a4 a5 a6 a7 b1 b2 b3 b4 b5 b6 b7 tM:Tok}{C CH aS aV aF Ds De Dt Da f_hi f_ai f_tb f_tr f_tk f_td f_sf f_se f_tw:Y0}{odS odV odF odQ ode odt oda:W5}{slS slV slF slQ sle slt sla:W4}{ocQ oce oct oca:W2}{nS nV nF nQ ne nt na:Nat}{s0 s1 s2 v0 v1 v2 e0 e1 x0 tL tF tC f1 f2 f3 f4 f5 f6:Tok}
  (aL:PySem.W.nsIn K mainGlobals "law"=some (some (.ref f))) (lL:K.lookup f=some ⟨oc,od,.func (PySem.W.fnOf "law" "law" (Cr (top 145)) (Cj (top 145)) (Bh (top 145)) .none kV dc pm an cd ct),sl⟩) (cL:PySem.W.codeIn K cd "law"=true) (kL:PySem.W.keepIn K (.ref f)=true)
  (t13:Aa K "is_whole" (top 13) .none)
  (t14:Aa K "share" (top 14) (.ref Ds))
  (t15:Aa K "common_divisor" (top 15) .none)
  (t16:Aa K "share_times" (top 16) .none)
  (t17:Aa K "share_over" (top 17) .none)
  (t18:Aa K "show_share" (top 18) .none)
  (t19:Aa K "show_whole" (top 19) .none)
  (t21:Aa K "halved_out" (top 21) .none)
  (t22:Aa K "plus" (top 22) .none)
  (t23:Aa K "minus" (top 23) .none)
  (t24:Aa K "times" (top 24) .none)
  (t25:Aa K "spun" (top 25) .none)
  (t26:Aa K "spun_once" (top 26) .none)
  (t27:Aa K "mirror" (top 27) .none)
  (t28:Aa K "rooted" (top 28) .none)
  (t29:Aa K "real_share" (top 29) .none)
  (t32:Aa K "ones" (top 32) .none)
  (t33:Aa K "is_word" (top 33) .none)
  (t34:Aa K "is_mark" (top 34) .none)
  (t35:Aa K "is_even" (top 35) .none)
  (t36:Aa K "is_even_mark" (top 36) .none)
  (t40:Aa K "read_mark" (top 40) .none)
  (t45:Aa K "start" (top 45) (.ref Dd))
  (t46:Aa K "check_beginning" (top 46) .none)
  (t47:Aa K "cells_of" (top 47) .none)
  (t48:Aa K "heft" (top 48) .none)
  (t49:Aa K "laid_on" (top 49) .none)
  (t50:Aa K "spun_by_mark" (top 50) .none)
  (t52:Aa K "settled" (top 52) .none)
  (t53:Aa K "check_look" (top 53) .none)
  (t54:Aa K "half_left" (top 54) .none)
  (t55:Aa K "halved" (top 55) .none)
  (t56:Aa K "is_nothing" (top 56) .none)
  (t57:Aa K "looked" (top 57) .none)
  (t58:Aa K "left_share" (top 58) .none)
  (t61:Aa K "check_move" (top 61) .none)
  (t62:Aa K "has_move_form" (top 62) .none)
  (t63:Aa K "named_cells" (top 63) .none)
  (Jy:Aa K "turned" (top 64) .none)
  (t65:Aa K "mixed" (top 65) .none)
  (t66:Aa K "mixed_at" (top 66) .none)
  (t67:Aa K "spun_where" (top 67) .none)
  (t68:Aa K "word_behind" (top 68) .none)
  (t69:Aa K "exchanged" (top 69) .none)
  (t71:Aa K "run" (top 71) .none)
  (t120:Aa K "parts_of" (top 120) .none)
  (t121:Aa K "words_of" (top 121) .none)
  (t122:Aa K "read_move" (top 122) .none)
  (t123:Aa K "is_figure" (top 123) .none)
  (t127:Aa K "read_play" (top 127) .none)
  (t128:Aa K "read_parts" (top 128) .none)
  (t129:Aa K "read_part" (top 129) .none)
  (t130:Aa K "read_look" (top 130) .none)
  (t132:Aa K "ends" (top 132) (.ref De))
  (t134:Aa K "ways_behind" (top 134) .none)
  (t135:Aa K "take_all" (top 135) .none)
  (t136:Aa K "settled_twin" (top 136) .none)
  (t137:Aa K "tell" (top 137) (.ref Dt))
  (t138:Aa K "show_end" (top 138) .none)
  (t140:Aa K "_law_cell_at" (top 140) .none)
  (t141:Aa K "_law_whole" (top 141) .none)
  (t142:Aa K "_law_move" (top 142) .none)
  (t143:Aa K "_law_back" (top 143) .none)
  (t144:Aa K "_law_text" (top 144) .none)
  (z0:PySem.W.nsIn K mainGlobals "isinstance"=some none)
  (z1:PySem.W.nsIn K mainGlobals "int"=some none)
  (z2:PySem.W.nsIn K mainGlobals "bool"=some none)
  (z3:PySem.W.nsIn K mainGlobals "tuple"=some none)
  (z4:PySem.W.nsIn K mainGlobals "list"=some none)
  (z5:PySem.W.nsIn K mainGlobals "len"=some none)
  (z6:PySem.W.nsIn K mainGlobals "range"=some none)
  (z7:PySem.W.nsIn K mainGlobals "all"=some none)
  (z8:PySem.W.nsIn K mainGlobals "any"=some none)
  (z9:PySem.W.nsIn K mainGlobals "max"=some none)
  (z10:PySem.W.nsIn K mainGlobals "min"=some none)
  (z11:PySem.W.nsIn K mainGlobals "zip"=some none)
  (z12:PySem.W.nsIn K mainGlobals "set"=some none)
  (z13:PySem.W.nsIn K mainGlobals "str"=some none)
  (z14:PySem.W.nsIn K mainGlobals "enumerate"=some none)
  (z15:PySem.W.nsIn K mainGlobals "reversed"=some none)
  (z16:PySem.W.nsIn K mainGlobals "sorted"=some none)
  (z17:PySem.W.nsIn K mainGlobals "sum"=some none)
  (z18:PySem.W.nsIn K mainGlobals "abs"=some none)
  (gM0:PySem.W.nsIn K mainGlobals "MOST_CELLS"=some (some (.int 6 tM)))
  (tD:K.lookup Dd=some ⟨ocD,odD,.seq #[.int 0 d0] nD,slD⟩)
  (gO0:PySem.W.nsIn K mainGlobals "ONE"=some (some (.ref aO)))
  (tO:K.lookup aO=some ⟨.type "tuple",odO,.seq #[.int 1 o1,.int 0 o2,.int 0 o3,.int 0 o4,.int 0 o5] nO,slO⟩)
  (gZ0:PySem.W.nsIn K mainGlobals "NOUGHT"=some (some (.ref aZ)))
  (tZ:K.lookup aZ=some ⟨.type "tuple",odZ,.seq #[.int 0 y1,.int 0 y2,.int 0 y3,.int 0 y4,.int 0 y5] nZ,slZ⟩)
  (gN0:PySem.W.nsIn K mainGlobals "NUMBERS_BEHIND"=some (some (.ref aN)))
  (tN:K.lookup aN=some ⟨.type "dict",none,.dict #[⟨PyData.keyHash w.params "flip",.str "flip" a1,.int 1 b1⟩,⟨PyData.keyHash w.params "mix",.str "mix" a2,.int 1 b2⟩,⟨PyData.keyHash w.params "turn",.str "turn" a3,.int 2 b3⟩,⟨PyData.keyHash w.params "if",.str "if" a4,.int 2 b4⟩,⟨PyData.keyHash w.params "pair",.str "pair" a5,.int 2 b5⟩,⟨PyData.keyHash w.params "swap",.str "swap" a6,.int 2 b6⟩,⟨PyData.keyHash w.params "cross",.str "cross" a7,.int 3 b7⟩] nN,#[]⟩)
  (nN0:(aN == sysModules)=false)
  (gS0:PySem.W.nsIn K mainGlobals "SURE"=some (some (.ref aS)))
  (tS:K.lookup aS=some ⟨.type "tuple",odS,.seq #[.int 1 s0,.int 0 s1,.int 1 s2] nS,slS⟩)
  (gV0:PySem.W.nsIn K mainGlobals "NEVER"=some (some (.ref aV)))
  (tV:K.lookup aV=some ⟨.type "tuple",odV,.seq #[.int 0 v0,.int 0 v1,.int 1 v2] nV,slV⟩)
  (tQ:K.lookup Ds=some ⟨ocQ,odQ,.seq #[.int 0 e0,.int 1 e1] nQ,slQ⟩)
  (tE:K.lookup De=some ⟨oce,ode,.seq #[.bool false] ne,sle⟩)
  (tT:K.lookup Dt=some ⟨oct,odt,.seq #[.bool false] nt,slt⟩)
  (tX:K.lookup Da=some ⟨oca,oda,.seq #[.int 0 x0] na,sla⟩)
  (gL0:PySem.W.nsIn K mainGlobals "MOST_LOOKS"=some (some (.int 6 tL)))
  (gF0:PySem.W.nsIn K mainGlobals "FIGURES"=some (some (.str "0123456789" tF)))
  (gC0:PySem.W.nsIn K mainGlobals "CELL_SIGNS"=some (some (.str ".fsb" tC)))
  (gA0:PySem.W.nsIn K mainGlobals "FIGURES_OF_CELLS"=some (some (.ref aF)))
  (tA:K.lookup aF=some ⟨.type "tuple",odF,.seq #[.str "1" f1,.str "2" f2,.str "3" f3,.str "4" f4,.str "5" f5,.str "6" f6] nF,slF⟩)
  (gH0:PySem.W.nsIn K mainGlobals "Holder"=some (some (.ref CH)))
  (gC1:PySem.W.nsIn K mainGlobals "AmountHolder"=some (some (.ref C)))
  (kc:CP.Hc K C)
  (g1:PySem.W.specialIn K (.ref CH) "__getattribute__"=some (some (.builtin "type.__getattribute__")))
  (g2:PySem.W.readsIn K CH (.type "type")=true)
  (g3:PySem.W.findCls K (.ref CH) (.type "type") "__init__"=some (.val (.ref f_hi)))
  (mk:PySem.W.makesIn K C=true)
  (kp:PySem.W.keepIn K (.ref C)=true)
  (fh:PySem.W.findIn K (.ref CH) "__init__"=some (some (.ref f_hi)))
  (hi:MethAt K CH "__init__" "Holder.__init__" (BP (top 113) 0) .none)
  (ai:MethAt K C "__init__" "AmountHolder.__init__" (BP (top 114) 0) (.ref Da))
  (tb:MethAt K C "turn_by" "AmountHolder.turn_by" (BP (top 114) 1) .none)
  (tr:MethAt K C "take_row" "Holder.take_row" (BP (top 113) 2) .none)
  (tk:MethAt K C "take" "Holder.take" (BP (top 113) 1) .none)
  (td:MethAt K C "told_board" "AmountHolder.told_board" (BP (top 114) 4) .none)
  (sf:MethAt K C "shares_of" "AmountHolder.shares_of" (BP (top 114) 3) .none)
  (se:MethAt K C "settle" "AmountHolder.settle" (BP (top 114) 2) .none)
  (tw:MethAt K C "twin" "AmountHolder.twin" (BP (top 114) 6) .none)
  : ∃fd:FuncData,(∀(s:U7) (v:W2),BindsTo s fd ⟨[v],[]⟩ [("_law_script",v)])/\∀base:Heap,K.In base->base.Ns mainGlobals mg->Cd l.prog w K mg base GP 14 fa fd ["_law_script"] (GQ K 63):=by
 have e:=hfa.symm.trans (Ii X G aL);cases e;have F:=X7q (st:=top 145) lL cL kL;have B:Bs mg:=⟨Gn X G z0,Gn X G z1,Gn X G z2,Gn X G z3,Gn X G z4,Gn X G z5,Gn X G z6,Gn X G z7,Gn X G z8,Gn X G z9,Gn X G z10,Gn X G z11,Gn X G z12,Gn X G z13,Gn X G z14,Gn X G z15,Gn X G z16,Gn X G z17,Gn X G z18⟩;refine⟨PySem.W.fnOf "law" "law" (Cr (top 145)) (Cj (top 145)) (Bh (top 145)) .none kV dc pm an cd ct,λs v=>.of_eq rfl,λbase _ _=>?_⟩;have gN:=Ii X G gN0;have DN:Jx K w.params aN NB:=⟨⟨_,_,_,tN,⟨U,U,U⟩,U,.cons ⟨_,_,U⟩ (.cons ⟨_,_,U⟩ (.cons ⟨_,_,U⟩ (.cons ⟨_,_,U⟩ (.cons ⟨_,_,U⟩ (.cons ⟨_,_,U⟩ (.cons ⟨_,_,U⟩ .nil))))))⟩,by decide +kernel,nN0⟩;have gZ:=Ii X G gZ0;have kZ:∀H,Ah K H aZ ([0,0,0,0,0].map V.int):=λH=>.inr ⟨_,_,_,tZ,U,U,(show 5<=sizeLine by decide),.cons ⟨_,U⟩ (.cons ⟨_,U⟩ (.cons ⟨_,U⟩ (.cons ⟨_,U⟩ (.cons ⟨_,U⟩ .nil))))⟩;have kS:∀H,Ah K H aS [.int 1,.int 0,.int 1]:=λH=>.inr ⟨_,_,_,tS,U,U,(show 3<=sizeLine by decide),.cons ⟨_,U⟩ (.cons ⟨_,U⟩ (.cons ⟨_,U⟩ .nil))⟩;have kV:∀H,Ah K H aV [.int 0,.int 0,.int 1]:=λH=>.inr ⟨_,_,_,tV,U,U,(show 3<=sizeLine by decide),.cons ⟨_,U⟩ (.cons ⟨_,U⟩ (.cons ⟨_,U⟩ .nil))⟩;have hF:∀H,Ah K H aF (Br.Mz.map V.str):=λH=>.inr ⟨_,_,_,tA,U,U,(show 6<=sizeLine by decide),.cons ⟨_,U⟩ (.cons ⟨_,U⟩ (.cons ⟨_,U⟩ (.cons ⟨_,U⟩ (.cons ⟨_,U⟩ (.cons ⟨_,U⟩ .nil)))))⟩;have BT:Bw.Bs mg:=⟨B.isinstance,B.int,B.bool,B.tuple,B.list,B.len,B.range,B.enumerate,B.sorted,B.sum,B.str,B.all,B.any,B.min,B.max⟩;have x:=X3c (P:=l.prog) (w:=w) (base:=base) (k:=0) t21 X G B;have b9:=X2y (P:=l.prog) (w:=w) (base:=base) (k:=0) t26 X G;have e6:=Y4q (k:=1) t28 X G (x);have E:=X2s (k:=1) t25 X G B (b9);have u:=X2w (k:=1) t22 X G B (x);have R:=Y8i (k:=2) t23 X G (u) (E);have m:=Y2e (P:=l.prog) (w:=w) (base:=base) (k:=0) t13 X G B;have z:=Y2f (P:=l.prog) (w:=w) (base:=base) (k:=0) t47 X G B;have Q:=Y8g (P:=l.prog) (w:=w) (base:=base) (k:=0) t63 X G B;have h8:=X3d (k:=1) t62 X G B gN DN (m);have Y:=_4 (k:=2) t61 X G B (h8) (Q.mono (by decide));have h0:=Y2d (k:=3) t66 X G (e6.mono (by decide)) (R) (u.mono (by decide));have f7:=Y8h (k:=4) t65 X G B (h0);have e':=X3e (P:=l.prog) (w:=w) (base:=base) (k:=0) t69 X G;have d8:=Y4y (k:=1) t68 X G (Q) (e');have d1:=Y7r (k:=2) t67 X G B (E);have h4:=Y4k (k:=5) Jy X G B (Y.mono (by decide)) (z.mono (by decide)) (f7) (d1.mono (by decide)) (d8.mono (by decide));have e8:=X6g (k:=6) t71 X G B (h4);have d5:=lV (k:=1) t33 X G (m);have Z:=_3 (k:=2) (Ii X G gM0) t46 X G (m.mono (by decide)) (d5);have e9:=Y7v t45 (zK tD) X G B (Ii X G gO0) gZ (Nh tO) (Nh tZ) Z;have h7:=Y7t (k:=1) t24 X G B (x) (b9);have d4:=Y4x (k:=1) t55 X G (x);have D:=Bw.X2x (P:=l.prog) (w:=w) (base:=base) (k:=0) t32 X G;have b:Ag l.prog w K mg base 1 "is_whole" ["thing"] Bw.K5:=m;have o:=Bw.lV (k:=1) t33 X G (b);have d3:=Bw.Y4v (k:=2) t34 X G BT (b.mono (by decide)) (o);have f8:=Bw.Y4w (k:=1) t35 X G (D);have e3:=Bw._8 (k:=3) t36 X G (d3) (f8.mono (by decide));have d6:=DG.Y7x (k:=2) t50 X G (E) (D.mono (by decide));have h3:=DG.X3a (k:=3) t49 X G B (d6);have f0:=Ci.Y4s (P:=l.prog) (w:=w) (base:=base) (k:=0) t27 X G;have f':=Ci.X6i (P:=l.prog) (w:=w) (base:=base) (k:=0) t15 X G;have I:=Ci.Y8a (k:=1) t14 (Ci.zJ tQ) X G B (m) (f');have h6:=Ci.X2v (k:=2) t29 X G (I);have A:=Ci.X3b (k:=3) gZ kZ t48 X G (u.mono (by decide)) (h7.mono (by decide)) (f0.mono (by decide)) (h6);have c5:=Ci.X6k (k:=4) t53 X G (e3);have M:=Ci._6 (k:=4) t54 X G B (h3) (u.mono (by decide)) (R.mono (by decide)) (d4.mono (by decide));have d2:=Ci.X2z (P:=l.prog) (w:=w) (base:=base) (k:=0) gZ kZ t56 X G B;have h5:=Ci.Y2c (k:=5) t52 X G (c5) (z.mono (by decide)) (M) (d2.mono (by decide));have e5:=Ci.Y4m (k:=2) t16 X G (I);have e4:=Ci.Y7w (k:=3) t17 X G (I.mono (by decide)) (e5);have d9:=Ci.Y4t (k:=5) t58 X G (e4.mono (by decide)) (A.mono (by decide)) (M);have e7:=Ci.Y4u (k:=6) t57 X G (c5.mono (by decide)) (z.mono (by decide)) (A.mono (by decide)) (d9);have j:=CP._7 (k:=3) (Ii X G gS0) kc hi (Ii X G gH0) g1 g2 (λf e=>by rw[fh]at e;cases e;exact g3) (Z);have c:=CP._2 (k:=4) kc ai (Y2m tX) (.cons ⟨_,U⟩ .nil) mk kp (Ii X G gC1) (j) (e9);have g:=CP.Y4l (k:=7) kc tb  (e8);have a:=CP.Y2a (k:=8) kc B tr  (g);have q:=CP.X2r (k:=9) kc tk  (a);have n:=CP.X2p (P:=l.prog) (w:=w) (base:=base) (k:=0) kc B td;have p:=CP.X2u (k:=7) kc sf  (e7);have i:=CP.Y4n (k:=6) kc se  (h5) (A.mono (by decide));have r:=CP.X2o (k:=5) kc B tw c;have y:=CP.Y2b (k:=9) kc t135 X G (a);have a9:=CP.Y7u (k:=7) kc t136 X G (r) (i);have c8:=CP.Y7s (k:=10) kc (Ii X G gV0) kV t134 X G (y) (p.mono (by decide)) (a9.mono (by decide));have d:=Br.Y7p (P:=l.prog) (w:=w) (base:=base) (k:=0) t121 X G;have c7:=Br.Y8f (k:=1) t120 X G B (d);have L:=Br.X6j (P:=l.prog) (w:=w) (base:=base) (k:=0) (Ii X G gF0) t123 X G B;have N:=Br.Y4r (k:=3) t122 X G B (d.mono (by decide)) (L.mono (by decide)) (Y);have c9:=Br.Y8d (k:=1) (Ii X G gC0) t40 X G B (D);have b0:=Br.Y8e (k:=2) t130 X G (c9);have T:=Br.Y8c (k:=4) t129 X G B (d.mono (by decide)) (b0.mono (by decide)) (N);have c4:=Br.Y4o (k:=5) (Ii X G gL0) t128 X G B (c7.mono (by decide)) (T);have O:=Br.Y8b (k:=6) (Ii X G gA0) hF t127 X G B (d.mono (by decide)) (c4);have e2:=Br.Y7y (P:=l.prog) (w:=w) (base:=base) (k:=0) t19 X G B;have d7:=Br.X2t (k:=1) t18 X G (e2);have a0:=Br.Y7z (k:=2) t138 X G B (d7);have xe:=Br.X3f (k:=10) tE kc kS t132 X G (O.mono (by decide)) (c.mono (by decide)) (c8) (y.mono (by decide));have t:=Br.X2q (k:=12) tT t137 X G (xe) (a0.mono (by decide));have a8:=X3g (P:=l.prog) (w:=w) (base:=base) (k:=0) t140 X G B;have J:=Y7q (P:=l.prog) (w:=w) (base:=base) (k:=0) t141 X G B;have S:=Br.Y8k (P:=l.prog) (w:=w) (base:=base) (k:=0) t142 X G;have b8:=Br._9 (P:=l.prog) (w:=w) (base:=base) (k:=0) t143 X G;have c0:=Br.Y8j (P:=l.prog) (w:=w) (base:=base) (k:=0) t144 X G B;exact Br.X6h (k:=13) F B kc (a8.mono (by decide)) (S.mono (by decide)) (b8.mono (by decide)) (c0.mono (by decide)) (xe.mono (by decide)) (J.mono (by decide)) (n.mono (by decide)) (q.mono (by decide)) (t)
theorem walk{q:U8}{loose:W0}{XP:(Str->Option Value)->Heap->Prop}{YP:World->Heap->Prop}{d:DefRec}{K:Params->U0}(hn:l.most=some 63)(hdf:d.params.defaults=[])
  (hY:∀(w:W1) (h:Heap),YP w h->(K w.params).In h)
  (F:∀(w:W1) (mg:U4) (fa:Y0) (h:Heap),(K w.params).In h->h.Ns mainGlobals mg->mg d.name=some (.ref fa) ->
   ∃fd:FuncData,(∀(s:U7) (u:W2),BindsTo s fd ⟨[u],[]⟩ [("_law_script",u)])/\∀base:Heap,(K w.params).In base->base.Ns mainGlobals mg->Cd l.prog w (K w.params) mg base GP 14 fa fd ["_law_script"] (GQ (K w.params) 63)):
  PySem.W.WalkO q loose XP YP l.row.toRowW d [] (λf vs=>PySem.call f vs):=
 L2.X1l (n:=63) (k:=14) (x:="_law_script") (CX:=λ_=>GP) (sp:=λw=>GQ (K w.params) 63) hn (by decide) hdf ⟨U,by decide,by decide⟩ hY F (λ_ _ a ns b lt c=>⟨a,ns,U,c,b,λ_=>rfl⟩) λ_ _ _ _ _ z=>z
end Ai
open PySem.W
set_option maxRecDepth 100000 in
set_option maxHeartbeats 0 in
theorem PySem.Challenge.cw_spinboard_k93_whole_there_and_back_holds : PySem.Challenge.rw_spinboard_k93_whole_there_and_back.Holds := by
 refine holds_law Ai.Hd.RM λsaid=>?_
 refine holds_open (q:=Ai.Hd.qq) (loose:=Ai.Hd.loose) (Xt:=Ai.Hd.Xt) (XP:=XL Ai.Hd.qq Ai.Hd.lv) (Yf:=Ai.Hd.HH.obs) (Ya:=Ai.Hd.HH.val) (YP:=Ai.Hd.HH.says) (d:=⟨"law",L2.Cr (Ai.top 145),L2.Cj (Ai.top 145),L2.Bh (Ai.top 145),Ai.Hd.jo (Ai.top 145)⟩) (kwd:=[]) (N:=Ai.Hd.NN) Ai.Hd.R7 Ai.Hd.HH.of Ai.Hd.HH.keeps (λs e=>xl_of s (Bool.and_eq_true_iff.mp e).1) XL.keeps (by kernel_rfl) (by kernel_rfl) (by kernel_rfl) (λs e=>recFacts_of (Bool.and_eq_true_iff.mp e).2) (by kernel_rfl) said (by kernel_rfl) ⟨U,U,U,U,U,by decide +kernel⟩ ?hw ?hc
 case hw=>w_witness2
 refine Ai.walk (l:=PySem.Challenge.rw_spinboard_k93_whole_there_and_back) rfl rfl (λw h Y=>PySem.W.kIn_of Y) ?F
 case F =>
  intro w mg fa h KX G hmg
  refine' Ai.X8b (K:=Ai.Hd.KK w.params) (f:=984) (aN:=413) (aO:=328) (aZ:=327) (Dd:=329) (C:=772) (CH:=708) (aS:=581) (aV:=582) (aF:=873) (Ds:=164) (De:=902) (Dt:=936) (Da:=720) (f_hi:=684) (f_ai:=727) (f_tb:=734) (f_tr:=698) (f_tk:=691) (f_td:=755) (f_sf:=748) (f_se:=741) (f_tw:=769) (tM:=610) (tL:=1350) (tF:=1313) (tC:=517) KX G hmg ?_ (Ai.Hd.ZS _) ?_ ?_ (Ai.Hd.fz "spinboard.shares" 376 163 162) (Ai.Hd.zF _) (Ai.Hd.fz "spinboard.shares" 376 178 177) (Ai.Hd.fz "spinboard.shares" 376 185 184) (Ai.Hd.fz "spinboard.shares" 376 192 191) (Ai.Hd.fz "spinboard.shares" 376 197 196) (Ai.Hd.fz "spinboard.shares" 376 204 203) (Ai.Hd.fz "spinboard.amounts" 441 211 210) (Ai.Hd.fz "spinboard.amounts" 441 216 215) (Ai.Hd.fz "spinboard.amounts" 441 223 222) (Ai.Hd.fz "spinboard.amounts" 441 228 227) (Ai.Hd.fz "spinboard.amounts" 441 235 234) (Ai.Hd.zE _) (Ai.Hd.fz "spinboard.amounts" 441 249 248) (Ai.Hd.zB _) (Ai.Hd.fz "spinboard.amounts" 441 263 262) (Ai.Hd.fz "spinboard.marks" 515 270 269) (Ai.Hd.fz "spinboard.marks" 515 277 276) (Ai.Hd.fz "spinboard.marks" 515 284 283) (Ai.Hd.fz "spinboard.marks" 515 291 290) (Ai.Hd.fz "spinboard.marks" 515 298 297) (Ai.Hd.fz "spinboard.marks" 515 326 325) (Ai.Hd.zA _) (Ai.Hd.fz "spinboard.boards" 596 341 340) (Ai.Hd.fz "spinboard.boards" 596 348 347) (Ai.Hd.fz "spinboard.boards" 596 355 354) (Ai.Hd.fz "spinboard.boards" 596 360 359) (Ai.Hd.fz "spinboard.boards" 596 367 366) (Ai.Hd.fz "spinboard.looks" 658 374 373) (Ai.Hd.fz "spinboard.looks" 658 381 380) (Ai.Hd.fz "spinboard.looks" 658 386 385) (Ai.Hd.fz "spinboard.looks" 658 393 392) (Ai.Hd.fz "spinboard.looks" 658 398 397) (Ai.Hd.fz "spinboard.looks" 658 405 404) (Ai.Hd.fz "spinboard.looks" 658 412 411) (Ai.Hd.fz "spinboard.moves" 716 418 417) (Ai.Hd.fz "spinboard.moves" 716 423 422) (Ai.Hd.yx _) (Ai.Hd.fz "spinboard.moves" 716 435 434) (Ai.Hd.fz "spinboard.moves" 716 440 439) (Ai.Hd.fz "spinboard.moves" 716 447 446) (Ai.Hd.fz "spinboard.moves" 716 452 451) (Ai.Hd.fz "spinboard.moves" 716 457 456) (Ai.Hd.fz "spinboard.moves" 716 464 463) (Ai.Hd.fz "spinboard.rows" 802 471 470) (Ai.Hd.fz "spinboard.rowtexts" 1311 855 854) (Ai.Hd.fz "spinboard.rowtexts" 1311 860 859) (Ai.Hd.fz "spinboard.rowtexts" 1311 865 864) (Ai.Hd.fz "spinboard.rowtexts" 1311 872 871) (Ai.Hd.fz "spinboard.plays" 1341 880 879) (Ai.Hd.fz "spinboard.plays" 1341 887 886) (Ai.Hd.fz "spinboard.plays" 1341 894 893) (Ai.Hd.fz "spinboard.plays" 1341 901 900) (Ai.Hd.jm _) (Ai.Hd.fz "spinboard.desk" 1393 921 920) (Ai.Hd.fz "spinboard.desk" 1393 928 927) (Ai.Hd.fz "spinboard.desk" 1393 935 934) (Ai.Hd.jj _) (Ai.Hd.fz "spinboard.desk" 1393 946 945) (Ai.Hd.fz "law_spinboard_k93_whole_there_and_back" 1455 953 952) (Ai.Hd.fz "law_spinboard_k93_whole_there_and_back" 1455 960 959) (Ai.Hd.fz "law_spinboard_k93_whole_there_and_back" 1455 967 966) (Ai.Hd.fz "law_spinboard_k93_whole_there_and_back" 1455 974 973) (Ai.Hd.fz "law_spinboard_k93_whole_there_and_back" 1455 979 978) ?_ ?_ ?_ ?_ ?_ ?_ ?_ ?_ ?_ ?_ ?_ ?_ ?_ ?_ ?_ ?_ ?_ ?_ ?_ ?_ (Ai.Hd.Zw _) ?_ (Ai.Hd.Zx _) ?_ (Ai.Hd.Zy _) ?_ (Ai.Hd.Zu _) (by decide) ?_ (Ai.Hd.Zr _) ?_ (Ai.Hd.Zq _) (Ai.Hd.Z2 _) (Ai.Hd.Za _) (Ai.Hd.ZW _) (Ai.Hd.Zi _) ?_ ?_ ?_ ?_ (Ai.Hd.Zb _) ?_ ?_ ⟨⟨?_,?_,?_,?_⟩,(by unfold L2.Ca;kernel_rfl),(by unfold L2.Ca;kernel_rfl),(by unfold L2.Ca;kernel_rfl)⟩ ?_ ?_ ?_ ?_ ?_ ?_ (L2.Cz (Ai.Hd.Zm _) ?_ ?_ ?_ ?_) (L2.Cz (Ai.Hd.Zh _) ?_ ?_ ?_ ?_) (L2.Cz (Ai.Hd.Zg _) ?_ ?_ ?_ ?_) (L2.Cz (Ai.Hd.Zj _) ?_ ?_ ?_ ?_) (L2.Cz (Ai.Hd.Zk _) ?_ ?_ ?_ ?_) (L2.Cz (Ai.Hd.Zd _) ?_ ?_ ?_ ?_) (L2.Cz (Ai.Hd.Ze _) ?_ ?_ ?_ ?_) (L2.Cz (Ai.Hd.Zf _) ?_ ?_ ?_ ?_) (L2.Cz (Ai.Hd.Zc _) ?_ ?_ ?_ ?_)
  all_goals kernel_rfl
