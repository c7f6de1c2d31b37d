import PyProof.Rows.All
import Wide.All
import OpenK.AllK
import Wide.FinOn
import Lean
import PyProof.EqAt
import PyProof.EqKinds
import PyProof.TupleCall
import PyProof.Rows.BitMore
import PyProof.ConsumeWalk
import PyProof.Rows.SetFrom
import PyProof.WalksMore
import PyProof.FactsAll.subtypes_4
import PyProof.Rows.SortWalk
import PyProof.Rows.TupDisplay
import PyProof.EnumMake
import PyProof.Rows.EnumRows
import PyProof.SumAny
import PyProof.Rows.MinMaxN
import PyProof.NeKinds
import PySem.Challenge.RW_spinboard_k62_whole_all_keepers
set_option Elab.async false
set_option linter.all false
set_option maxRecDepth 100000
namespace L2
open PySem PySem.Spec PyProof.Rows
abbrev Key:=Sum Int Str
def keyIs:Key->Value->Bool
 | .inl k,v=>Value.isInt k v
 | .inr x,v=>Value.isStrOf x v
def keyH (w:World):Key->Int
 | .inl k=>hashInt k
 | .inr x=>hashStr w x
theorem Z1o:∀ {k:Key}{v:Value},keyIs k v=true->(∃ i t,k=Sum.inl i/\v=Value.int i t)∨(∃ x t,k=Sum.inr x/\v=Value.str x t)
 | .inl i,v,h=>by
  obtain⟨t,e⟩:=Value.isInt_shape (k:=i) (v:=v) h
  exact .inl ⟨i,t,rfl,e⟩
 | .inr x,v,h=>by
  obtain⟨t,e⟩:=Value.isStrOf_shape (x:=x) (v:=v) h
  exact .inr ⟨x,t,rfl,e⟩
theorem Y7u (i:Int)(t:Tok):keyIs (.inl i) (.int i t)=true:=by simp[keyIs,Value.isInt]
theorem Z6y (x:Str)(t:Tok):keyIs (.inr x) (.str x t)=true:=by simp[keyIs,Value.isStrOf]
theorem X7l (a b:Int):decide ((Sum.inl a:Key)=Sum.inl b)=(a == b):=by
 by_cases e:a=b
 ·subst e;simp
 ·have h:¬ (Sum.inl a:Key)=Sum.inl b:=fun q=>e (Sum.inl.inj q)
  rw[decide_eq_false h]
  exact(beq_eq_false_iff_ne.mpr e).symm
theorem X7i (a b:Str):decide ((Sum.inr a:Key)=Sum.inr b)=decide (a=b):=by
 by_cases e:a=b
 ·subst e;simp
 ·have h:¬ (Sum.inr a:Key)=Sum.inr b:=fun q=>e (Sum.inr.inj q)
  rw[decide_eq_false h,decide_eq_false e]
theorem X7k (a:Int)(b:Str):decide ((Sum.inl a:Key)=Sum.inr b)=false:=decide_eq_false (fun q=>nomatch q)
theorem X7j (a:Str)(b:Int):decide ((Sum.inr a:Key)=Sum.inl b)=false:=decide_eq_false (fun q=>nomatch q)
def Z1v (prog:Program)(w:World):PySem.KeyKind prog w Key where
 is:=keyIs
 hash:=keyH w
 inj:=fun v a b ha hb=>by
  rcases Z1o ha with ⟨i,t,rfl,rfl⟩ | ⟨x,t,rfl,rfl⟩
  ·rcases Z1o hb with ⟨j,u,rfl,e⟩ | ⟨y,u,rfl,e⟩
   ·injection e with e1 _;rw[e1]
   ·exact nomatch e
  ·rcases Z1o hb with ⟨j,u,rfl,e⟩ | ⟨y,u,rfl,e⟩
   ·exact nomatch e
   ·injection e with e1 _;rw[e1]
 byValue:=fun k v h=>by
  rcases Z1o h with ⟨i,t,rfl,rfl⟩ | ⟨x,t,rfl,rfl⟩<;>rfl
 pyHash:=fun hv h=>by
  rcases Z1o hv with ⟨i,t,rfl,rfl⟩ | ⟨x,t,rfl,rfl⟩
  ·exact wpAny_pyHash_int h
  ·exact wpAny_pyHash_str h
 eqBool:=fun hu hv h=>by
  rcases Z1o hu with ⟨i,t,rfl,rfl⟩ | ⟨x,t,rfl,rfl⟩
  ·rcases Z1o hv with ⟨j,u,rfl,rfl⟩ | ⟨y,u,rfl,rfl⟩
   ·rw[X7l] at h;exact wpAny_eqBool_int h
   ·rw[X7k] at h;exact SeqAt.EqAt.int_str i t y u _ _ _ _ h
  ·rcases Z1o hv with ⟨j,u,rfl,rfl⟩ | ⟨y,u,rfl,rfl⟩
   ·rw[X7j] at h;exact SeqAt.EqAt.str_int x t j u _ _ _ _ h
   ·rw[X7i] at h;exact wpAny_eqBool_str h
 «strs»:=fun k x t v h=>by
  rcases Z1o h with ⟨i,u,rfl,e⟩ | ⟨y,u,rfl,e⟩
  ·exact nomatch e
  ·injection e with e1 _
   subst e1
   cases v<;>rfl
theorem Y1n (prog:Program)(w:World)(i:Int)(t:Tok):(Z1v prog w).is (.inl i) (.int i t)=true:=Y7u i t
theorem Y1m (prog:Program)(w:World)(x:Str)(t:Tok):(Z1v prog w).is (.inr x) (.str x t)=true:=Z6y x t
inductive V where
 | non | bl (b:Bool) | int (i:Int) | str (x:Str) | byt (b:Array UInt8) | flt (b:UInt64) | ref (a:Addr) | ty (n:String)
 deriving DecidableEq
def RelV:V->Value->Prop
 | .non,u=>u=Value.none
 | .bl b,u=>u=Value.bool b
 | .int i,u=>∃ t,u=Value.int i t
 | .str x,u=>∃ t,u=Value.str x t
 | .byt b,u=>∃ t,u=Value.bytes b t
 | .flt b,u=>∃ t,u=Value.float b t
 | .ref a,u=>u=Value.ref a
 | .ty n,u=>u=Value.type n
abbrev Vals:List V->List Value->Prop:=Paired RelV
theorem Vals.length {xs:List V}{us:List Value}(r:Vals xs us):xs.length=us.length:=Paired.length r
theorem Vals.get:∀ {xs:List V}{us:List Value}{i:Nat}{x:V},Vals xs us->xs[i]?=some x->∃ u,us[i]?=some u/\RelV x u
 | _,_,_,_,.nil,e=>by simp at e
 | _,_,0,_,.cons r _,e=>by simp at e;subst e;exact⟨_,rfl,r⟩
 | _,_,i+1,x,.cons _ t,e=>by
  obtain⟨u,h1,h2⟩:=Vals.get (i:=i) (x:=x) t (by simpa using e)
  exact⟨u,by simpa using h1,h2⟩
theorem Vals.set {x:V}{u:Value}(r:RelV x u):∀ {xs:List V}{us:List Value} (i:Nat),Vals xs us->Vals (xs.set i x) (us.set i u)
 | _,_,_,.nil=>.nil
 | _,_,0,.cons _ t=>.cons r t
 | _,_,i+1,.cons q t=>.cons q (Vals.set r i t)
theorem Vals.append:∀ {xs ys:List V}{us ws:List Value},Vals xs us->Vals ys ws->Vals (xs++ys) (us++ws)
 | _,_,_,_,.nil,s=>s
 | _,_,_,_,.cons r t,s=>.cons r (Vals.append t s)
theorem Vals.take:∀ {xs:List V}{us:List Value} (n:Nat),Vals xs us->Vals (xs.take n) (us.take n)
 | _,_,0,_=>.nil
 | _,_,_+1,.nil=>.nil
 | _,_,n+1,.cons r t=>.cons r (Vals.take n t)
theorem Vals.drop:∀ {xs:List V}{us:List Value} (n:Nat),Vals xs us->Vals (xs.drop n) (us.drop n)
 | _,_,0,r=>r
 | _,_,_+1,.nil=>.nil
 | _,_,n+1,.cons _ t=>Vals.drop n t
def RelO:Option V->Option Value->Prop
 | some v,some u=>RelV v u
 | none,none=>True
 | _,_=>False
def KV {κ:Type}:List (κ × V)->List (κ × Value)->Prop:=Paired fun (p:κ × V) (q:κ × Value)=>p.1=q.1/\RelV p.2 q.2
def kV:Key->V
 | .inl i=>.int i
 | .inr x=>.str x
inductive HO where
 | lst (xs:List V)
 | tup (xs:List V)
 | dK (kvs:List (Key × V)) | dT (kvs:List (List Key × V))
 | set (S:Int->Bool) (n:Nat)
 | ins (C dx:Addr) (fs:List (Str × V))
 | own (x:Addr)
 | xd (fs:List (Str × V))
 | met (f x:Addr)
 | rng (lo hi:Int)
 | frz (o:Obj) (u:HO)
 | tbl (ps:Array Value)
 | ext (φ:Heap->Prop)
abbrev Hp:=Addr->Option HO
def upd (H:Hp)(a:Addr)(o:HO):Hp:=fun b=>if b=a then some o else H b
theorem Z0c {H:Hp}{a:Addr}{o:HO}:upd H a o a=some o:=by unfold upd;rw[if_pos rfl]
theorem Z0x {H:Hp}{a b:Addr}{o:HO}(h:b≠a):upd H a o b=H b:=by unfold upd;rw[if_neg h]
theorem Z5o {H:Hp}{a b:Addr}{o u:HO}(h:H a=some o)(h':H b=some u)(d:o≠u):a≠b:=by
 intro e;subst e;rw[h] at h';exact d (Option.some.inj h')
theorem Z1g {H:Hp}{a b:Addr}{o:HO}(h:H a=some o)(h':H b=none):a≠b:=by
 intro e;subst e;rw[h] at h';cases h'
section
variable (P:Program) (w:World)
def ObjOk (H:Hp)(h:Heap)(a:Addr):HO->Prop
 | .lst xs=>xs.length<=sizeLine/\∃ (its:List Value) (n:Nat),Vals xs its/\h.get? a=some { cls:=.type "list",data:=.seq its.toArray n }
 | .tup xs=>xs.length<=sizeLine/\∃ its:List Value,Vals xs its/\IsTup h a its.toArray
 | .dK kvs=>kvs.length<=sizeLine/\(a == sysModules)=false/\∃ vs,KV kvs vs/\h.DictOf (Z1v P w) a vs
 | .dT kvs=>kvs.length<=sizeLine/\(a == sysModules)=false/\∃ xs:List (List Key × Addr × Value),
   Paired (fun (p:List Key × V) (q:List Key × Addr × Value)=>p.1=q.1/\H q.2.1=some (.tup (p.1.map kV))/\RelV p.2 q.2.2) kvs xs ∧
   ∃ o es ep,h.get? a=some o/\o.ExactDict/\o.data=.dict es ep/\es.toList=xs.map (entryOfKey (tupleKind (Z1v P w)))/\(xs.map (·.1)).Nodup
 | .set S n=>h.SetOf (intKind P w) a S n
 | .ins C dx fs=>H dx=some (.own a)/\fs.length<=1000/\dx≠a/\h.get? a=some (PySem.W.instObj C dx) ∧
   ∃ mA,h.Ns1 dx mA/\(∀ f,RelO (fs.lookup f) (mA f))/\PySem.Within mA (fs.map (·.1))
 | .own _=>∃ o,h.get? a=some o
 | .xd fs=>∃ mA,h.Ns1 a mA/\∀ f,RelO (fs.lookup f) (mA f)
 | .rng lo hi=>∃ t u v,h.get? a=some { cls:=.type "range",data:=.fields #[.int lo t,.int hi u,.int 1 v] }
 | .frz o u=>h.get? a=some o/\ObjOk H h a u
 | .tbl ps=>h.get? a=some { cls:=.none,data:=.fields ps }
 | .met f x=>h.get? a=some (PySem.W.methodObj (.ref f) (.ref x))
 | .ext φ=>φ h/\(∃ o,h.get? a=some o)/\∀ h1 h2:Heap,φ h1->(∀ o,h1.get? a=some o->h2.get? a=some o)->φ h2
def HOk (H:Hp)(h:Heap):Prop:=∀ a o,H a=some o->ObjOk P w H h a o
end
section
variable {P:Program}{w:World}{H H':Hp}{h h':Heap}{a:Addr}{o:HO}
theorem ObjOk.lt (x:ObjOk P w H h a o):a<h.objs.size:=by
 cases o with
 | lst xs=>obtain⟨_,_,_,_,e⟩:=x;exact Heap.lt_size e
 | tup xs=>obtain⟨_,_,_,p⟩:=x;exact p.lt
 | dK kvs=>obtain⟨_,_,_,_,o,_,_,e,_⟩:=x;exact Heap.lt_size e
 | dT kvs=>obtain⟨_,_,_,_,o,_,_,e,_⟩:=x;exact Heap.lt_size e
 | set S n=>obtain⟨o,_,_,_,e,_⟩:=x;exact Heap.lt_size e
 | ins C dx fs=>obtain⟨_,_,_,e,_⟩:=x;exact Heap.lt_size e
 | own y=>obtain⟨_,e⟩:=x;exact Heap.lt_size e
 | xd fs=>obtain⟨_,⟨_,_,_,e,_⟩,_⟩:=x;exact Heap.lt_size e
 | rng lo hi=>obtain⟨_,_,_,e⟩:=x;exact Heap.lt_size e
 | frz ob u=>obtain⟨e,_⟩:=x;exact Heap.lt_size e
 | tbl ps=>exact Heap.lt_size (show h.get? a=some _ from x)
 | met f y=>exact Heap.lt_size (show h.get? a=some _ from x)
 | ext φ=>obtain⟨_,⟨_,e⟩,_⟩:=x;exact Heap.lt_size e
theorem Paired.mapP {α β:Type}{F G:α->β->Prop}:∀ {l₁:List α}{l₂:List β},Paired F l₁ l₂->(∀ a b,F a b->G a b)->Paired G l₁ l₂
 | _,_,.nil,_=>.nil
 | _,_,.cons r t,f=>.cons (f _ _ r) (Paired.mapP t f)
theorem Paired.imp' {α β:Type}{F G:α->β->Prop}(f:∀ a b,F a b->G a b){l₁:List α}{l₂:List β}(r:Paired F l₁ l₂):Paired G l₁ l₂:=Paired.mapP r f
theorem ObjOk.stay (x:ObjOk P w H h a o)(k:∀ b u,(b=a∨H b=some (.own a))->h.get? b=some u->h'.get? b=some u)
  (ho:∀ b,H b=some (.own a)->H' b=some (.own a)) (ht:∀ b xs,H b=some (.tup xs)->H' b=some (.tup xs)):ObjOk P w H' h' a o:=by
 induction o with
 | lst xs=>obtain⟨z,its,n,r,e⟩:=x;exact⟨z,its,n,r,k _ _ (.inl rfl) e⟩
 | tup xs=>obtain⟨z,its,r,ob,e,c⟩:=x;exact⟨z,its,r,ob,k _ _ (.inl rfl) e,c⟩
 | dK kvs=>obtain⟨z,y,vs,r,ob,es,ep,e,c⟩:=x;exact⟨z,y,vs,r,ob,es,ep,k _ _ (.inl rfl) e,c⟩
 | dT kvs =>
  obtain⟨z,y,xs,r,ob,es,ep,e,c⟩:=x
  exact⟨z,y,xs,Paired.mapP r fun p q z=>⟨z.1,ht _ _ z.2.1,z.2.2⟩,ob,es,ep,k _ _ (.inl rfl) e,c⟩
 | set S n=>obtain⟨ob,es,ep,t,e,c⟩:=x;exact⟨ob,es,ep,t,k _ _ (.inl rfl) e,c⟩
 | ins C dx fs =>
  obtain⟨d,z,ne,e,mA,⟨od,es,ep,e2,c⟩,r⟩:=x
  exact⟨ho _ d,z,ne,k _ _ (.inl rfl) e,mA,⟨od,es,ep,k _ _ (.inr d) e2,c⟩,r⟩
 | own y=>obtain⟨ob,e⟩:=x;exact⟨ob,k _ _ (.inl rfl) e⟩
 | xd fs=>obtain⟨mA,⟨od,es,ep,e,c⟩,r⟩:=x;exact⟨mA,⟨od,es,ep,k _ _ (.inl rfl) e,c⟩,r⟩
 | rng lo hi=>obtain⟨t,u,v,e⟩:=x;exact⟨t,u,v,k _ _ (.inl rfl) e⟩
 | frz ob u ih=>obtain⟨e,q⟩:=x;exact⟨k _ _ (.inl rfl) e,ih q⟩
 | tbl ps =>
  have e:h.get? a=some { cls:=.none,data:=.fields ps }:=x
  show h'.get? a=some { cls:=.none,data:=.fields ps }
  exact k a _ (.inl rfl) e
 | met f y =>
  have e:h.get? a=some (PySem.W.methodObj (.ref f) (.ref y)):=x
  show h'.get? a=some (PySem.W.methodObj (.ref f) (.ref y))
  exact k a _ (.inl rfl) e
 | ext φ=>obtain⟨p,⟨o,e⟩,st⟩:=x;exact⟨st _ _ p fun o q=>k _ _ (.inl rfl) q,⟨o,k _ _ (.inl rfl) e⟩,st⟩
theorem HOk.lt (x:HOk P w H h)(e:H a=some o):a<h.objs.size:=(x a o e).lt
theorem HOk.fresh (x:HOk P w H h)(e:h.objs.size<=a):H a=none:=by
 cases q:H a with
 | none=>rfl
 | some u=>exact absurd (Nat.lt_of_lt_of_le (x.lt q) e) (Nat.lt_irrefl _)
theorem HOk.kept (x:HOk P w H h)(k:∀ b u,h.get? b=some u->h'.get? b=some u):HOk P w H h':=fun a o e =>
 (x a o e).stay (fun b u _ q=>k b u q) (fun _ q=>q) fun _ _ q=>q
theorem HOk.laid (x:HOk P w H h)(k:∀ b u,h.get? b=some u->h'.get? b=some u)(hp:h.objs.size<=a)(new:ObjOk P w (upd H a o) h' a o):HOk P w (upd H a o) h':=fun b u e=>by
 have hn:=x.fresh hp
 by_cases hb:b=a
 ·subst hb;rw[Z0c] at e;cases e;exact new
 ·rw[Z0x hb] at e
  exact(x b u e).stay (fun c v _ q=>k c v q) (fun c q=>by rw[Z0x (Z1g q hn)];exact q) fun c xs q=>by rw[Z0x (Z1g q hn)];exact q
end
def Rd (H:Hp)(a:Addr)(u:HO):Prop:=H a=some u∨∃ o,H a=some (.frz o u)
theorem Rd.ok {P:Program}{w:World}{H:Hp}{h:Heap}{a:Addr}{u:HO}(r:Rd H a u)(x:HOk P w H h):ObjOk P w H h a u:=by
 rcases r with r | ⟨o,r⟩
 ·exact x a u r
 ·obtain⟨_,q⟩:=x a _ r
  exact q
def Mut:Option HO->Prop
 | some (.lst _)=>True
 | some (.dK _)=>True
 | some (.dT _)=>True
 | some (.set _ _)=>True
 | some (.ins _ _ _)=>True
 | some (.ext _)=>True
 | _=>False
section
variable {P:Program}{w:World}{H:Hp}{h h':Heap}{x e:Addr}{o':HO}
theorem HOk.write (ok:HOk P w H h)(mu:Mut (H x))(he:e=x∨H e=some (.own x))(k:∀ b u,b≠e->h.get? b=some u->h'.get? b=some u)(heo:∃ u,h'.get? e=some u)
  (new:ObjOk P w (upd H x o') h' x o'):HOk P w (upd H x o') h':=fun b u q=>by
 have nown:∀ c y,H c=some (.own y)->c≠x:=fun c y r z=>by subst z;rw[r] at mu;exact mu
 have ntup:∀ c xs,H c=some (.tup xs)->c≠x:=fun c xs r z=>by subst z;rw[r] at mu;exact mu
 by_cases hb:b=x
 ·subst hb;rw[Z0c] at q;cases q;exact new
 ·rw[Z0x hb] at q
  by_cases hbe:b=e
  ·have q':H b=some (.own x):=by
    rcases he with z | z
    ·exact absurd (hbe.trans z) hb
    ·rw[hbe];exact z
   rw[q] at q';cases q'
   obtain⟨v,hv⟩:=heo
   exact⟨v,by rw[hbe];exact hv⟩
  ·refine(ok b u q).stay (fun c v hc r=>k c v ?_ r) (fun c r=>by rw[Z0x (nown c b r)];exact r) fun c xs r=>by rw[Z0x (ntup c xs r)];exact r
   rcases hc with rfl | hc
   ·exact hbe
   ·rintro rfl
    rcases he with z | z
    ·exact nown c b hc z
    ·rw[hc] at z;cases z;exact hb rfl
end
structure Un (fs ex:List Addr) (H H':Hp) (h h':Heap):Prop where
 keep:∀ b o,h.get? b=some o->H b=none->b ∉ fs->b ∉ ex->h'.get? b=some o
 slot:∀ b o,h.get? b=some o->H b=none->b∈fs->b ∉ ex->∃ sl,h'.get? b=some { o with slots:=sl }
 free:∀ b o,h.get? b=some o->H b=none->b ∉ ex->H' b=none
 there:∀ b o,h.get? b=some o->b ∉ ex->∃ o',h'.get? b=some o'
 tups:∀ b xs,H b=some (.tup xs)->H' b=some (.tup xs)
 frzs:∀ b o u,H b=some (.frz o u)->H' b=some (.frz o u)
 tbls:∀ b ps,H b=some (.tbl ps)->∃ more,H' b=some (.tbl (ps++more))
section
variable {fs fs' ex ex':List Addr}{H H1 H2:Hp}{h h1 h2 h':Heap}{a x e:Addr}{o:HO}
theorem Un.any (u:Un fs ex H H1 h h1){b:Addr}{ob:Obj}(q:h.get? b=some ob)(n:H b=none)(hx:b ∉ ex):∃ sl,h1.get? b=some { ob with slots:=sl }:=by
 by_cases hb:b∈fs
 ·exact u.slot b ob q n hb hx
 ·exact⟨ob.slots,u.keep b ob q n hb hx⟩
theorem Un.kept (k:∀ b u,h.get? b=some u->h'.get? b=some u):Un fs ex H H h h' :=
 ⟨fun b ob q _ _ _=>k b ob q,fun b ob q _ _ _=>⟨ob.slots,k b ob q⟩,fun _ _ _ n _=>n,fun b ob q _=>⟨ob,k b ob q⟩,fun _ _ q=>q,fun _ _ _ q=>q,fun _ ps q=>⟨#[],by rw[q];simp⟩⟩
theorem Un.refl:Un fs ex H H h h:=Un.kept fun _ _ q=>q
theorem Un.laid (k:∀ b u,h.get? b=some u->h'.get? b=some u)(hp:h.objs.size<=a)(hn:H a=none):Un fs ex H (upd H a o) h h' where
 keep:=fun b u q _ _ _=>k b u q
 slot:=fun b u q _ _ _=>⟨u.slots,k b u q⟩
 free:=fun b u q n _=>by rw[Z0x (Nat.ne_of_lt (Nat.lt_of_lt_of_le (Heap.lt_size q) hp))];exact n
 there:=fun b u q _=>⟨u,k b u q⟩
 tups:=fun b xs q=>by rw[Z0x (Z1g q hn)];exact q
 frzs:=fun b u xs q=>by rw[Z0x (Z1g q hn)];exact q
 tbls:=fun b ps q=>⟨#[],by rw[Z0x (Z1g q hn),q];simp⟩
theorem Un.write (mu:Mut (H x))(he:e=x∨H e=some (.own x))(k:∀ b u,b≠e->h.get? b=some u->h'.get? b=some u)(heo:∃ u,h'.get? e=some u):Un fs ex H (upd H x o) h h':=by
 have hx:∀ b,H b=none->b≠x:=fun b n z=>by subst z;rw[n] at mu;exact mu
 have hb:∀ b,H b=none->b≠e:=fun b n z=>by
  subst z
  rcases he with r | r
  ·exact hx b n r
  ·rw[n] at r;cases r
 have hm:∀ b u,H b=some u->¬ Mut (some u)->b≠x:=fun b u q nm z=>by subst z;rw[q] at mu;exact nm mu
 refine⟨fun b u q n _ _=>k b u (hb b n) q,fun b u q n _ _=>⟨u.slots,k b u (hb b n) q⟩,fun b u q n _=>by rw[Z0x (hx b n)];exact n,fun b u q _=>?_,
  fun b xs q=>by rw[Z0x (hm b _ q fun z=>z)];exact q,fun b u xs q=>by rw[Z0x (hm b _ q fun z=>z)];exact q,fun b ps q=>⟨#[],by rw[Z0x (hm b _ q fun z=>z),q];simp⟩⟩
 by_cases hbe:b=e
 ·subst hbe;exact heo
 ·exact⟨u,k b u hbe q⟩
end
def trk (h:Heap)(H:Hp):List Addr:=(List.range h.objs.size).filter fun a=>(H a).isSome
def hidT (h:Heap)(H:Hp):Heap:=PySem.W.hideAll h (trk h H)
theorem Y8d (h:Heap)(H:Hp):(hidT h H).objs.size=h.objs.size:=PySem.W.hideAll_size _ _
theorem X1f {h:Heap}{H:Hp}{b:Addr}{o:Obj}(e:h.get? b=some o)(n:H b=none):(hidT h H).get? b=some o :=
 PySem.W.hideAll_get _ e fun hm=>by
  have q:(H b).isSome=true:=(List.mem_filter.mp hm).2
  rw[n] at q;simp at q
theorem X4q {h:Heap}{H:Hp}{b:Addr}{o:Obj}(e:(hidT h H).get? b=some o):h.get? b=some o/\H b=none:=by
 have e':h.get? b=some o:=PySem.W.of_hideAll (trk h H) e
 refine⟨e',?_⟩
 cases q:H b with
 | none=>rfl
 | some x =>
  have hm:b∈trk h H:=List.mem_filter.mpr ⟨List.mem_range.mpr (Heap.lt_size e'),by simp[q]⟩
  have z:(hidT h H).get? b=none:=PySem.W.hideAll_none (trk h H) hm
  rw[z] at e;cases e
structure Mod (K:PySem.W.Frag) (mg:Str->Option Value) (base:Heap):Prop where
 kin:K.In base
 glob:base.Ns mainGlobals mg
 blt:∃ mb,base.Ns builtinsNs mb/\∀ x:Str,x≠"__name__"->mb x=bootBuiltins x
 nolimit:base.NoLimit
structure Cx where
 prog:Program
 w:World
 K:PySem.W.Frag
 mg:Str->Option Value
 base:Heap
 A:Around
 N:List Str
 s₀:Shared
 H₀:Hp
 env:Env
 outer:List Env
 stack:List Env
 ex:List Addr
 fn:Str->Bool
 calm:Bool
 pn:List (Addr × Obj)
 xe:Value->Shared->Prop
def frs (l:List Env):List Addr:=l.filterMap (·.frame)
abbrev Cx.fs (X:Cx):List Addr:=frs X.outer
def Vis (sc:Scope)(x:Str):Prop:=sc.names.lookup x=some .local∨sc.names.lookup x=some .cell∨sc.names.lookup x=some .free
def Loc (sc:Scope)(x:Str):Prop:=sc.names.lookup x=some .local∨sc.names.lookup x=some .cell
def Look (env:Env)(h:Heap)(m:Str->Option Value)(x:Str)(u:Value):Prop :=
 (env.kindOf x=some .local/\m x=some u)∨((env.kindOf x=some .cell∨env.kindOf x=some .free)/\∃ c,env.cells.lookup x=some c/\h.IsCell c (some u))
structure Cx.Ok (X:Cx):Prop where
 mod:Mod X.K X.mg X.base
 kind:X.env.scope.kind=.function
 glob:X.env.globals=mainGlobals
 blt:X.env.builtins=builtinsNs
 above:X.s₀.heap.objs.size<=X.env.locals
 inj:∀ x y c,X.env.cells.lookup x=some c->X.env.cells.lookup y=some c->x=y
 has:∀ x,(X.env.kindOf x=some .cell∨X.env.kindOf x=some .free)->∃ c,X.env.cells.lookup x=some c
 cab:∀ x c,X.fn x=true->X.env.cells.lookup x=some c->X.s₀.heap.objs.size<=c
 hd:X.calm=true->X.A.handled=none
 frames:X.A.frames=some X.stack
 stk:X.stack=X.outer∨(X.stack=X.env::X.outer/\X.env.frame=some X.env.locals)
 exf:∀ b∈X.ex,b≠X.env.locals/\∀ x c,X.env.cells.lookup x=some c->c≠b
 bs:∀ b o,X.base.get? b=some o->X.s₀.heap.get? b=some o/\X.H₀ b=none
 bsz:X.base.objs.size<=X.s₀.heap.objs.size
 noex:∀ b o,X.base.get? b=some o->b ∉ X.ex
 exfs:∀ b∈X.ex,b ∉ X.fs
 funs:X.s₀.heap.FunFrames X.base X.outer
 frf:∀ b∈X.fs,X.H₀ b=none
structure Inv (X:Cx) (pins:List (Addr × Obj)) (σ:List (Option V)) (H:Hp) (s:Shared):Prop where
 ok:X.Ok
 os:s.os=X.s₀.os
 bare:AllBare s.gens
 base:Un X.fs X.ex X.H₀ H X.s₀.heap s.heap
 loc:∃ m,s.heap.Ns X.env.locals m/\∀ (i:Nat) (x:Str) (v:V),X.N[i]?=some x->σ[i]?=some (some v)->Vis X.env.scope x->∃ u,RelV v u/\Look X.env s.heap m x u
 cell:∀ x c,X.env.cells.lookup x=some c->∃ v,s.heap.IsCell c v
 free:H X.env.locals=none
 freeC:∀ x c,X.env.cells.lookup x=some c->H c=none
 pin:∀ p∈X.pn++pins,s.heap.get? p.1=some p.2/\H p.1=none/\p.1≠X.env.locals/\p.1 ∉ X.fs/\∀ v,p.2.data≠.cell v
 hok:HOk X.prog X.w H s.heap
 len:σ.length=X.N.length
section
variable {X:Cx}{pins:List (Addr × Obj)}{σ:List (Option V)}{H H':Hp}{s:Shared}{h':Heap}
theorem Cx.Ok.nofr (ok:X.Ok){b:Addr}{o:Obj}(e:X.base.get? b=some o):b ∉ X.fs:=fun hb=>by
 have:=(ok.funs.mem hb).1
 rw[e] at this;cases this
theorem Inv.bs (I:Inv X pins σ H s):∀ b o,X.base.get? b=some o->s.heap.get? b=some o/\H b=none:=fun b o e =>
 ⟨I.base.keep b o (I.ok.bs b o e).1 (I.ok.bs b o e).2 (I.ok.nofr e) (I.ok.noex b o e),I.base.free b o (I.ok.bs b o e).1 (I.ok.bs b o e).2 (I.ok.noex b o e)⟩
theorem Inv.bk (I:Inv X pins σ H s):∀ b o,X.base.get? b=some o->s.heap.get? b=some o:=fun b o e=>(I.bs b o e).1
theorem Inv.mod (I:Inv X pins σ H s):Mod X.K X.mg X.base:=I.ok.mod
theorem Inv.kIn (I:Inv X pins σ H s):X.K.In s.heap:=I.ok.mod.kin.keeps I.bk
theorem Inv.lt (I:Inv X pins σ H s):X.env.locals<s.heap.objs.size:=let ⟨_,hn,_⟩:=I.loc;hn.lt
theorem Inv.sz (I:Inv X pins σ H s):X.s₀.heap.objs.size<=s.heap.objs.size:=Nat.le_trans I.ok.above (Nat.le_of_lt I.lt)
theorem Inv.nofs (I:Inv X pins σ H s){a:Addr}(h:s.heap.objs.size<=a):a ∉ X.fs:=fun hb=>by
 obtain⟨_,o,ho,_⟩:=I.ok.funs.mem hb
 exact absurd (Nat.lt_of_lt_of_le (Heap.lt_size ho) (Nat.le_trans I.sz h)) (Nat.lt_irrefl _)
theorem Inv.cne (I:Inv X pins σ H s):∀ x c,X.env.cells.lookup x=some c->c≠X.env.locals:=fun x c e z=>by
 obtain⟨v,o,ho,hd⟩:=I.cell x c e
 obtain⟨m,⟨o',es,ep,ho',hd',_⟩,_⟩:=I.loc
 rw[z,ho'] at ho;cases ho;rw[hd'] at hd;cases hd
theorem Inv.funs (I:Inv X pins σ H s):s.heap.FunFrames X.base X.outer:=by
 have all:∀ (l:List Env),(∀ b∈frs l,b∈X.fs)->X.s₀.heap.FunFrames X.base l->s.heap.FunFrames X.base l:=by
  intro l
  induction l with
  | nil=>intro _ _;trivial
  | cons env r ih =>
   intro hs hl
   obtain⟨hk,⟨L,o,hf,hn,ho,hd⟩,hr⟩:=hl
   have hL:L∈X.fs:=hs L (by unfold frs;rw[List.filterMap_cons,hf];exact List.mem_cons_self)
   obtain⟨sl,e⟩:=I.base.slot L o ho (I.ok.frf L hL) hL fun z=>I.ok.exfs L z hL
   exact⟨hk,⟨L,_,hf,hn,e,hd⟩,ih (fun b hb=>hs b (by unfold frs;rw[List.filterMap_cons,hf];exact List.mem_cons_of_mem _ hb)) hr⟩
 exact all X.outer (fun _ hb=>hb) I.ok.funs
theorem Inv.stack (I:Inv X pins σ H s):s.heap.FunFrames X.base X.stack:=by
 rcases I.ok.stk with e | ⟨e,hf⟩
 ·rw[e];exact I.funs
 ·rw[e]
  obtain⟨m,hn,_⟩:=I.loc
  refine .cons (by rw[I.ok.kind];decide) hf hn ?_ I.funs
  exact Heap.get?_none_of_le (Nat.le_trans I.ok.bsz I.ok.above)
theorem Inv.stkSub (I:Inv X pins σ H s):∀ b∈frs X.stack,b∈X.env.locals::X.fs:=fun b hb=>by
 rcases I.ok.stk with e | ⟨e,hf⟩
 ·rw[e] at hb;exact List.mem_cons_of_mem _ hb
 ·rw[e] at hb
  unfold frs at hb
  rw[List.filterMap_cons,hf] at hb
  exact hb
theorem Inv.stkFree (I:Inv X pins σ H s):∀ b∈frs X.stack,H b=none:=fun b hb=>by
 rcases List.mem_cons.mp (I.stkSub b hb) with e | hb
 ·rw[e];exact I.free
 ·obtain⟨_,o,ho,_⟩:=I.ok.funs.mem hb
  exact I.base.free b o ho (I.ok.frf b hb) fun z=>I.ok.exfs b z hb
theorem Inv.step {g':Array GenState}{t':Nat}{d':Drawn}{ch:List Addr}(I:Inv X pins σ H s)
  (hch:∀ b∈ch,(b∈X.ex∨X.s₀.heap.objs.size<=b)/\b≠X.env.locals/\(∀ x c,X.env.cells.lookup x=some c->c≠b)/\∀ p∈X.pn++pins,p.1≠b)
  (keep:∀ b o,b≠X.env.locals->b ∉ X.fs->b ∉ ch->s.heap.get? b=some o->H b=none->h'.get? b=some o)
  (slot:∀ b o,b≠X.env.locals->b∈X.fs->b ∉ ch->s.heap.get? b=some o->H b=none->∃ sl,h'.get? b=some { o with slots:=sl }) (free:∀ b o,b ∉ ch->s.heap.get? b=some o->H b=none->H' b=none)
  (there:∀ b o,b ∉ ch->s.heap.get? b=some o->∃ o',h'.get? b=some o')
  (tups:∀ b xs,H b=some (.tup xs)->H' b=some (.tup xs)) (frzs:∀ b o u,H b=some (.frz o u)->H' b=some (.frz o u)) (tbls:∀ b ps,H b=some (.tbl ps)->∃ more,H' b=some (.tbl (ps++more)))
  (ns:∀ m,s.heap.Ns X.env.locals m->h'.Ns X.env.locals m) (hok:HOk X.prog X.w H' h') (hg:AllBare g') :
  Inv X pins σ H' { s with heap:=h',gens:=g',drawn:=d',toks:=t' }:=by
 have neL:∀ b o,X.s₀.heap.get? b=some o->b≠X.env.locals:=fun b o e=>Nat.ne_of_lt (Nat.lt_of_lt_of_le (Heap.lt_size e) I.ok.above)
 have neC:∀ b o,X.s₀.heap.get? b=some o->b ∉ X.ex->b ∉ ch:=fun b o e hx hb=>by
  rcases (hch b hb).1 with z | z
  ·exact hx z
  ·exact absurd (Nat.lt_of_lt_of_le (Heap.lt_size e) z) (Nat.lt_irrefl _)
 have cellK:∀ x c,X.env.cells.lookup x=some c->∀ v,s.heap.IsCell c v->h'.IsCell c v:=fun x c e v ⟨o,ho,hd⟩=>by
  have nch:c ∉ ch:=fun z=>(hch c z).2.2.1 x c e rfl
  by_cases hc:c∈X.fs
  ·obtain⟨sl,q⟩:=slot c o (I.cne x c e) hc nch ho (I.freeC x c e)
   exact⟨_,q,hd⟩
  ·exact⟨o,keep c o (I.cne x c e) hc nch ho (I.freeC x c e),hd⟩
 refine⟨I.ok,I.os,hg,⟨fun b o e n hb hx=>?_,fun b o e n hb hx=>?_,fun b o e n hx=>?_,fun b o e hx=>?_,fun b xs e=>tups b xs (I.base.tups b xs e),fun b o xs e=>frzs b o xs (I.base.frzs b o xs e),fun b ps e=>?_⟩,?_,fun x c e=>?_,?_,fun x c e=>?_,fun p hp=>?_,hok,I.len⟩
 ·exact keep b o (neL b o e) hb (neC b o e hx) (I.base.keep b o e n hb hx) (I.base.free b o e n hx)
 ·obtain⟨sl,e1⟩:=I.base.slot b o e n hb hx
  obtain⟨sl',e2⟩:=slot b _ (neL b o e) hb (neC b o e hx) e1 (I.base.free b o e n hx)
  exact⟨sl',e2⟩
 ·obtain⟨o',e1⟩:=I.base.there b o e hx
  exact free b o' (neC b o e hx) e1 (I.base.free b o e n hx)
 ·obtain⟨o',e1⟩:=I.base.there b o e hx
  exact there b o' (neC b o e hx) e1
 ·obtain⟨m1,e1⟩:=I.base.tbls b ps e
  obtain⟨m2,e2⟩:=tbls b _ e1
  exact⟨m1++m2,by rw[e2,Array.append_assoc]⟩
 ·obtain⟨m,hn,hl⟩:=I.loc
  refine⟨m,ns m hn,fun i x v e1 e2 e3=>?_⟩
  obtain⟨u,r,l⟩:=hl i x v e1 e2 e3
  refine⟨u,r,?_⟩
  rcases l with l | ⟨k,c,e,z⟩
  ·exact .inl l
  ·exact .inr ⟨k,c,e,cellK x c e _ z⟩
 ·obtain⟨v,z⟩:=I.cell x c e
  exact⟨v,cellK x c e v z⟩
 ·obtain⟨m,⟨o,_,_,ho,_⟩,_⟩:=I.loc
  exact free _ o (fun z=>(hch _ z).2.1 rfl) ho I.free
 ·obtain⟨v,o,ho,hd⟩:=I.cell x c e
  exact free c o (fun z=>(hch c z).2.2.1 x c e rfl) ho (I.freeC x c e)
 ·obtain⟨e,n,ne,nf,d⟩:=I.pin p hp
  have nch:p.1 ∉ ch:=fun z=>(hch p.1 z).2.2.2 p hp rfl
  exact⟨keep p.1 p.2 ne nf nch e n,free p.1 p.2 nch e n,ne,nf,d⟩
theorem Inv.un {t':Nat}(I:Inv X pins σ H s)(u:Un X.fs [] H H' s.heap h')(hok:HOk X.prog X.w H' h'):Inv X pins σ H' { s with heap:=h',toks:=t' }:=by
 obtain⟨m,⟨o,es,ep,ho,r⟩,_⟩:=id I.loc
 obtain⟨sl,hL⟩:=u.any ho I.free (by simp)
 exact I.step (g':=s.gens) (d':=s.drawn) (ch:=[]) (fun _ z=>nomatch z) (fun b o _ hb _ e n=>u.keep b o e n hb (by simp)) (fun b o _ hb _ e n=>u.slot b o e n hb (by simp)) (fun b o _ e n=>u.free b o e n (by simp)) (fun b o _ e=>u.there b o e (by simp)) u.tups u.frzs u.tbls (fun m' hm=>by
  obtain⟨o',es',ep',ho',r'⟩:=hm
  rw[ho] at ho';cases ho'
  exact⟨_,es',ep',hL,r'⟩) hok I.bare
theorem Inv.call {g':Array GenState}{t':Nat}{d':Drawn}{ch:List Addr}(I:Inv X pins σ H s)(u:Un (frs X.stack) ch H H' s.heap h')(hok:HOk X.prog X.w H' h')(hg:AllBare g')
  (hch:∀ b∈ch,(b∈X.ex∨X.s₀.heap.objs.size<=b)/\b≠X.env.locals/\(∀ x c,X.env.cells.lookup x=some c->c≠b)/\∀ p∈X.pn++pins,p.1≠b) :
  Inv X pins σ H' { s with heap:=h',gens:=g',drawn:=d',toks:=t' }:=by
 obtain⟨m,⟨o,es,ep,ho,r⟩,_⟩:=id I.loc
 obtain⟨sl,hL⟩:=u.any ho I.free fun z=>(hch _ z).2.1 rfl
 exact I.step (ch:=ch) hch (fun b o hL hb hc e n=>u.keep b o e n (fun z=>(List.mem_cons.mp (I.stkSub b z)).elim hL hb) hc) (fun b o _ _ hc e n=>u.any e n hc) (fun b o hc e n=>u.free b o e n hc) (fun b o hc e=>u.there b o e hc) u.tups u.frzs u.tbls (fun m' hm=>by
  obtain⟨o',es',ep',ho',r'⟩:=hm
  rw[ho] at ho';cases ho'
  exact⟨_,es',ep',hL,r'⟩) hok hg
theorem Inv.turned {t':Nat}{it:Addr}(I:Inv X pins σ H s)(k:∀ b o,b≠it->s.heap.get? b=some o->h'.get? b=some o)(hn:H it=none)(hL:it≠X.env.locals)
  (h1:it∈X.ex∨X.s₀.heap.objs.size<=it) (h2:∀ x c,X.env.cells.lookup x=some c->c≠it) (h3:∀ p∈X.pn++pins,p.1≠it):Inv X pins σ H { s with heap:=h',toks:=t' }:=by
 have nit:∀ b u,H b=some u->b≠it:=fun b u e z=>by rw[z,hn] at e;cases e
 refine I.step (g':=s.gens) (d':=s.drawn) (ch:=[it]) (fun b hb=>?_) (fun b o _ _ hc e _=>k b o (fun z=>hc (by simp[z])) e) (fun b o _ _ hc e _=>⟨o.slots,k b o (fun z=>hc (by simp[z])) e⟩) (fun _ _ _ _ n=>n)
  (fun b o hc e=>⟨o,k b o (fun z=>hc (by simp[z])) e⟩) (fun _ _ e=>e) (fun _ _ _ e=>e) (fun b ps e=>⟨#[],by rw[e];simp⟩) (fun m hm=>?_) (fun b u e=>?_) I.bare
 ·have e:b=it:=by simpa using hb
  subst e
  exact⟨h1,hL,h2,h3⟩
 ·obtain⟨o,es,ep,ho,r⟩:=hm
  exact⟨o,es,ep,k _ o (Ne.symm hL) ho,r⟩
 ·refine(I.hok b u e).stay (fun c v hc q=>k c v ?_ q) (fun _ q=>q) fun _ _ q=>q
  rcases hc with z | z
  ·rw[z];exact nit b u e
  ·exact nit c _ z
theorem Inv.tok (I:Inv X pins σ H s)(t:Nat):Inv X pins σ H { s with toks:=t }:=I.un (h':=s.heap) (t':=t) Un.refl I.hok
theorem Inv.kept {t':Nat}(I:Inv X pins σ H s)(k:∀ b u,s.heap.get? b=some u->h'.get? b=some u):Inv X pins σ H { s with heap:=h',toks:=t' }:=I.un (Un.kept k) (I.hok.kept k)
theorem Inv.laid {a:Addr}{o:HO}{t':Nat}(I:Inv X pins σ H s)(k:∀ b u,s.heap.get? b=some u->h'.get? b=some u)(hp:s.heap.objs.size<=a)(new:ObjOk X.prog X.w (upd H a o) h' a o) :
  Inv X pins σ (upd H a o) { s with heap:=h',toks:=t' }:=I.un (Un.laid k hp (I.hok.fresh hp)) (I.hok.laid k hp new)
theorem Inv.write {x e:Addr}{o:HO}{t':Nat}(I:Inv X pins σ H s)(mu:Mut (H x))(he:e=x∨H e=some (.own x))(k:∀ b u,b≠e->s.heap.get? b=some u->h'.get? b=some u)(heo:∃ u,h'.get? e=some u)
  (new:ObjOk X.prog X.w (upd H x o) h' x o):Inv X pins σ (upd H x o) { s with heap:=h',toks:=t' }:=I.un (Un.write mu he k heo) (I.hok.write mu he k heo new)
theorem Inv.pins_of {pins':List (Addr × Obj)}(I:Inv X pins σ H s)(h:∀ p∈pins',s.heap.get? p.1=some p.2/\H p.1=none/\p.1≠X.env.locals/\p.1 ∉ X.fs/\∀ v,p.2.data≠.cell v):Inv X pins' σ H s :=
 ⟨I.ok,I.os,I.bare,I.base,I.loc,I.cell,I.free,I.freeC,fun p hp=>(List.mem_append.mp hp).elim (fun z=>I.pin p (List.mem_append_left _ z)) (h p),I.hok,I.len⟩
theorem Y3k {N:List Str}(hN:N.Nodup){i j:Nat}{x:Str}(a:N[i]?=some x)(b:N[j]?=some x):i=j:=by
 obtain⟨h1,e1⟩:=List.getElem?_eq_some_iff.mp a
 obtain⟨h2,e2⟩:=List.getElem?_eq_some_iff.mp b
 exact(List.getElem_inj hN).mp (e1.trans e2.symm)
theorem Z6i {M:Model}{A:Around}{E:Value->Shared->Prop}{i:Nat}{x:Str}{v:V}{u:Value}{Q:Unit->Shared->Prop}(I:Inv X pins σ H s)(hN:X.N.Nodup)(hi:X.N[i]?=some x)(hx:Loc X.env.scope x)(r:RelV v u)
  (h:∀ s',Inv X pins (σ.set i (some v)) H s'->(∃ a,Heap.SameBut a s.heap s'.heap/\(a=X.env.locals∨X.env.cells.lookup x=some a))->Q () s') (hf:X.fn x=true∨X.env.scope.names.lookup x=some .local:=by first | exact .inl rfl | exact .inr rfl | assumption):wpAny M A (storeName X.env x u) Q E s:=by
 obtain⟨m,hn,hl⟩:=id I.loc
 have hcls:(X.env.scope.kind == .class || (X.env.scope.kind == .module && X.env.locals != X.env.globals))=false:=by rw[I.ok.kind];rfl
 have hiσ:i<σ.length:=by rw[I.len];exact(List.getElem?_eq_some_iff.mp hi).1
 have cne:=I.cne
 have tracked:∀ {a:Addr}{h':Heap},(∃ o,s.heap.get? a=some o/\H a=none)->Heap.SameBut a s.heap h'->HOk X.prog X.w H h':=fun {a h'} ha hs b ob e=>by
  obtain⟨_,_,hfree⟩:=ha
  refine(I.hok b ob e).stay (fun c w' hc q=>(hs.2 c ?_).trans q) (fun _ q=>q) fun _ _ q=>q
  rintro rfl
  rcases hc with rfl | hc
  ·rw[hfree] at e;cases e
  ·rw[hfree] at hc;cases hc
 rcases hx with hk | hk
 ·refine wpAny_storeName_local hk hn (fun h' hn' hs=>?_) hcls
  obtain⟨oL,_,_,hoL,_⟩:=id hn
  refine h _ ⟨I.ok,I.os,I.bare,⟨fun b o e n hb hx=>?_,fun b o e n hb hx=>?_,I.base.free,fun b o e hx=>?_,I.base.tups,I.base.frzs,I.base.tbls⟩,⟨_,hn',fun j y v' e1 e2 e3=>?_⟩,fun y c e=>?_,I.free,I.freeC,fun p hp=>?_,tracked ⟨oL,hoL,I.free⟩ hs,by simpa using I.len⟩ ⟨_,hs,.inl rfl⟩
  ·exact(hs.2 b (Nat.ne_of_lt (Nat.lt_of_lt_of_le (Heap.lt_size e) I.ok.above))).trans (I.base.keep b o e n hb hx)
  ·obtain⟨sl,e1⟩:=I.base.slot b o e n hb hx
   exact⟨sl,(hs.2 b (Nat.ne_of_lt (Nat.lt_of_lt_of_le (Heap.lt_size e) I.ok.above))).trans e1⟩
  ·obtain⟨o',e1⟩:=I.base.there b o e hx
   exact⟨o',(hs.2 b (Nat.ne_of_lt (Nat.lt_of_lt_of_le (Heap.lt_size e) I.ok.above))).trans e1⟩
  ·by_cases hj:j=i
   ·subst hj
    rw[hi] at e1;cases e1
    rw[List.getElem?_set_self hiσ] at e2
    cases e2
    exact⟨u,r,.inl ⟨hk,by simp⟩⟩
   ·rw[List.getElem?_set_ne (Ne.symm hj)] at e2
    obtain⟨u',r',q⟩:=hl j y v' e1 e2 e3
    refine⟨u',r',?_⟩
    rcases q with ⟨k,e⟩ | ⟨k,c,e,z⟩
    ·refine .inl ⟨k,?_⟩
     have:y≠x:=fun e=>hj (Y3k hN e1 (e ▸ hi))
     simp[this,e]
    ·exact .inr ⟨k,c,e,z.sameBut hs (cne y c e)⟩
  ·obtain⟨w',z⟩:=I.cell y c e
   exact⟨w',z.sameBut hs (cne y c e)⟩
  ·obtain⟨e,n,ne,nf,d⟩:=I.pin p hp
   exact⟨(hs.2 p.1 ne).trans e,n,ne,nf,d⟩
 ·have hfn:X.fn x=true:=by
   rcases hf with z | z
   ·exact z
   ·rw[z] at hk;cases hk
  obtain⟨c,hc⟩:=I.ok.has x (.inl hk)
  obtain⟨w',z⟩:=I.cell x c hc
  refine wpAny_storeName_cell I.ok.kind hk hc z (fun h' hc' hs=>?_)
  obtain⟨oc,hoc,hocd⟩:=id z
  refine h { s with heap:=h' } ⟨I.ok,I.os,I.bare,⟨fun b o e n hb hx=>?_,fun b o e n hb hx=>?_,I.base.free,fun b o e hx=>?_,I.base.tups,I.base.frzs,I.base.tbls⟩,⟨m,hn.sameBut hs (Ne.symm (cne x c hc)),fun j y v' e1 e2 e3=>?_⟩,fun y c' e=>?_,I.free,I.freeC,fun p hp=>?_,tracked ⟨oc,hoc,I.freeC x c hc⟩ hs,by simpa using I.len⟩ ⟨c,hs,.inr hc⟩
  ·exact(hs.2 b (Nat.ne_of_lt (Nat.lt_of_lt_of_le (Heap.lt_size e) (I.ok.cab x c hfn hc)))).trans (I.base.keep b o e n hb hx)
  ·obtain⟨sl,e1⟩:=I.base.slot b o e n hb hx
   exact⟨sl,(hs.2 b (Nat.ne_of_lt (Nat.lt_of_lt_of_le (Heap.lt_size e) (I.ok.cab x c hfn hc)))).trans e1⟩
  ·obtain⟨o',e1⟩:=I.base.there b o e hx
   exact⟨o',(hs.2 b (Nat.ne_of_lt (Nat.lt_of_lt_of_le (Heap.lt_size e) (I.ok.cab x c hfn hc)))).trans e1⟩
  ·by_cases hj:j=i
   ·subst hj
    rw[hi] at e1;cases e1
    rw[List.getElem?_set_self hiσ] at e2
    cases e2
    exact⟨u,r,.inr ⟨.inl hk,c,hc,hc'⟩⟩
   ·rw[List.getElem?_set_ne (Ne.symm hj)] at e2
    obtain⟨u',r',q⟩:=hl j y v' e1 e2 e3
    refine⟨u',r',?_⟩
    rcases q with q | ⟨k,c',e,z'⟩
    ·exact .inl q
    ·refine .inr ⟨k,c',e,z'.sameBut hs ?_⟩
     rintro rfl
     exact hj (Y3k hN e1 (I.ok.inj _ _ _ e hc ▸ hi))
  ·by_cases hcc:c'=c
   ·subst hcc;exact⟨_,hc'⟩
   ·obtain⟨w2,z2⟩:=I.cell y c' e
    exact⟨w2,z2.sameBut hs hcc⟩
  ·obtain⟨e,n,ne,nf,d⟩:=I.pin p hp
   refine⟨(hs.2 p.1 ?_).trans e,n,ne,nf,d⟩
   intro q
   rw[q,hoc] at e
   have q':oc=p.2:=Option.some.inj e
   exact d w' (by rw[<-q'];exact hocd)
theorem Y2j {M:Model}{A:Around}{E:Value->Shared->Prop}{i:Nat}{x:Str}{v:V}{u:Value}{Q:Unit->Shared->Prop}(I:Inv X pins σ H s)(hN:X.N.Nodup)(hi:X.N[i]?=some x)(hx:Loc X.env.scope x)(r:RelV v u)
  (h:∀ s',Inv X pins (σ.set i (some v)) H s'->Q () s') (hf:X.fn x=true∨X.env.scope.names.lookup x=some .local:=by first | exact .inl rfl | exact .inr rfl | assumption):wpAny M A (storeName X.env x u) Q E s :=
 Z6i I hN hi hx r (fun s' I' _=>h s' I') hf
theorem Inv.call' {s':Shared}{ch:List Addr}(I:Inv X pins σ H s)(ho:s'.os=s.os)(u:Un (frs X.stack) ch H H' s.heap s'.heap)(hok:HOk X.prog X.w H' s'.heap)(hg:AllBare s'.gens)
  (hch:∀ b∈ch,(b∈X.ex∨X.s₀.heap.objs.size<=b)/\b≠X.env.locals/\(∀ x c,X.env.cells.lookup x=some c->c≠b)/\∀ p∈X.pn++pins,p.1≠b):Inv X pins σ H' s':=by
 obtain⟨h',g',d',t',o'⟩:=s'
 have e:o'=s.os:=ho
 subst e
 exact I.call (g':=g') (t':=t') (d':=d') u hok hg hch
end
abbrev XK:=Value->Option Addr->Hp->Prop
abbrev St:=List (Option V)
abbrev VK:=V->Hp->Prop
abbrev TE:=St->Hp->VK->Prop
abbrev TT:=St->Hp->(Bool->Hp->Prop)->Prop
abbrev TA:=St->Hp->(List V->Hp->Prop)->Prop
structure Ends where
 nx:St->Hp->Prop
 rt:VK
 bk:St->Hp->Prop:=fun _ _=>False
 ct:St->Hp->Prop:=fun _ _=>False
abbrev TS:=Ends->St->Hp->Prop
def EP (X:Cx)(pins:List (Addr × Obj))(σ:St)(Q:VK)(u:Value)(s':Shared):Prop:=∃ v H',Inv X pins σ H' s'/\RelV v u/\Q v H'
def TP (X:Cx)(pins:List (Addr × Obj))(σ:St)(Q:Bool->Hp->Prop)(b:Bool)(s':Shared):Prop:=∃ H',Inv X pins σ H' s'/\Q b H'
def AP (X:Cx)(pins:List (Addr × Obj))(σ:St)(Q:List V->Hp->Prop)(us:List Value)(s':Shared):Prop:=∃ vs H',Inv X pins σ H' s'/\Vals vs us/\Q vs H'
def SP (X:Cx)(pins:List (Addr × Obj))(D:Ends)(f:Flow)(s':Shared):Prop :=
 match f with
 | .next=>∃ σ' H',Inv X pins σ' H' s'/\D.nx σ' H'
 | .brk=>∃ σ' H',Inv X pins σ' H' s'/\D.bk σ' H'
 | .cont=>∃ σ' H',Inv X pins σ' H' s'/\D.ct σ' H'
 | .ret u=>∃ v σ' H',Inv X pins σ' H' s'/\RelV v u/\D.rt v H'
def PE (X:Cx)(e:Expr)(t:TE):Prop :=
 ∀ (pins:List (Addr × Obj)) (s:Shared) (σ:St) (H:Hp) (Q:VK),Inv X pins σ H s->t σ H Q->wpAny (model X.prog X.w) X.A (eval e X.env) (EP X pins σ Q) X.xe s
def PT (X:Cx)(e:Expr)(t:TT):Prop :=
 ∀ (pins:List (Addr × Obj)) (s:Shared) (σ:St) (H:Hp) (Q:Bool->Hp->Prop),Inv X pins σ H s->t σ H Q->wpAny (model X.prog X.w) X.A (isTrue e X.env (eval e X.env)) (TP X pins σ Q) X.xe s
def PW (X:Cx)(e:Expr)(t:TT):Prop :=
 ∀ (whole:Sem Value) (pins:List (Addr × Obj)) (s:Shared) (σ:St) (H:Hp) (Q:Bool->Hp->Prop),Inv X pins σ H s->t σ H Q->wpAny (model X.prog X.w) X.A (isTrue e X.env whole) (TP X pins σ Q) X.xe s
theorem PW.pt {X:Cx}{e:Expr}{t:TT}(h:PW X e t):PT X e t:=h _
def PA (X:Cx)(es:List Expr)(t:TA):Prop :=
 ∀ (pos:Pos) (pins:List (Addr × Obj)) (s:Shared) (σ:St) (H:Hp) (Q:List V->Hp->Prop),Inv X pins σ H s->t σ H Q->wpAny (model X.prog X.w) X.A (spliced (backTo pos (starEach es X.env))) (AP X pins σ Q) X.xe s
def PS (X:Cx)(st:Stmt)(t:TS):Prop :=
 ∀ (pins:List (Addr × Obj)) (s:Shared) (σ:St) (H:Hp) (D:Ends),Inv X pins σ H s->t D σ H->wpAny (model X.prog X.w) X.A (exec st X.env) (SP X pins D) X.xe s
def PSs (X:Cx)(st:List Stmt)(t:TS):Prop :=
 ∀ (pins:List (Addr × Obj)) (s:Shared) (σ:St) (H:Hp) (D:Ends),Inv X pins σ H s->t D σ H->wpAny (model X.prog X.w) X.A (execs st X.env) (SP X pins D) X.xe s
theorem thn {α:Type}{t:Sem α}{Q Q':α->Shared->Prop}{M:Model}{A:Around}{E:Value->Shared->Prop}{s:Shared}(h:wpAny M A t Q E s)(hQ:∀ a s,Q a s->Q' a s):wpAny M A t Q' E s:=wpAny_mono h hQ fun _ _ x=>x
section
variable {X:Cx}
theorem bin {a b:Expr}{ta tb:TE}(ha:PE X a ta)(hb:PE X b tb){pins:List (Addr × Obj)}{s:Shared}{σ:St}{H:Hp}{R:V->V->Hp->Prop}(I:Inv X pins σ H s)(h:ta σ H fun x H1=>tb σ H1 fun y H2=>R x y H2)
  {α:Type}{Q:α->Shared->Prop}{f:Value->Value->Sem α}
  (hf:∀ v u s2 x y H2,Inv X pins σ H2 s2->RelV x v->RelV y u->R x y H2->wpAny (model X.prog X.w) X.A (f v u) Q X.xe s2) :
  wpAny (model X.prog X.w) X.A (eval a X.env) (fun v s₁=>wpAny (model X.prog X.w) X.A (eval b X.env) (fun u s₂=>wpAny (model X.prog X.w) X.A (f v u) Q X.xe s₂) X.xe s₁) X.xe s:=by
 refine thn (ha pins s σ H _ I h) fun v s1 ⟨x,H1,I1,r1,q1⟩=>?_
 refine thn (hb pins s1 σ H1 _ I1 q1) fun u s2 ⟨y,H2,I2,r2,q2⟩=>?_
 exact hf v u s2 x y H2 I2 r1 r2 q2
def tVar (i:Nat):TE:=fun σ H Q=>∃ v,σ[i]?=some (some v)/\Q v H
def tC (v:V):TE:=fun _ H Q=>Q v H
theorem X6u {i:Nat}{x:Str}{pos:Pos}(hN:X.N[i]?=some x)(hv:Vis X.env.scope x)(hd:(x == ("__debug__":Str))=false:=by decide)(hcd:(x == ("__classdict__":Str))=false:=by decide):PE X (.Name x pos) (tVar i):=by
 intro pins s σ H Q I h
 obtain⟨v,e,h⟩:=h
 obtain⟨m,hn,hl⟩:=I.loc
 obtain⟨u,r,l⟩:=hl i x v hN e hv
 have fin:EP X pins σ Q u s:=⟨v,H,I,r,h⟩
 rcases l with ⟨hk,hm⟩ | ⟨hk,c,hc,hcell⟩
 ·exact wpAny_Name (wpAny_loadName_local I.ok.kind hk hn hm fin) hd
 ·rcases hk with hk | hk
  ·exact wpAny_Name (wpAny_loadName_cell I.ok.kind hk hc hcell fin) hd
  ·exact wpAny_Name (wpAny_loadName_free I.ok.kind hk hc hcell fin hcd) hd
theorem Z0b {i j pos}:PE X (.Constant (.int i) j pos) (tC (.int i)):=fun _ _ _ H _ I h=>wpAny_Constant_int ⟨.int i,H,I.tok _,⟨_,rfl⟩,h⟩
theorem Z2w {b j pos}:PE X (.Constant (.bool b) j pos) (tC (.bl b)):=fun _ _ _ H _ I h=>Constant_bool ⟨.bl b,H,I,rfl,h⟩
theorem Z9r {j pos}:PE X (.Constant .none j pos) (tC .non):=fun _ _ _ H _ I h=>Constant_none ⟨.non,H,I,rfl,h⟩
theorem Z2b {x j pos}:PE X (.Constant (.str x) j pos) (tC (.str x)):=fun _ _ _ H _ I h=>Calls.Constant_str ⟨.str x,H,I.tok _,⟨_,rfl⟩,h⟩
def Gl (X:Cx)(x:Str):Prop:=X.env.kindOf x=some .globalImplicit
theorem Y7p {E:Value->Shared->Prop}{pins:List (Addr × Obj)}{s:Shared}{σ:St}{H:Hp}{x:Str}{u:Value}{pos:Pos}{Q:Value->Shared->Prop}(I:Inv X pins σ H s)(hg:Gl X x)(hm:X.mg x=some u)(h:Q u s)
  (hd:(x == ("__debug__":Str))=false:=by decide):wpAny (model X.prog X.w) X.A (eval (.Name x pos) X.env) Q E s :=
 Calls.Name_function_global I.ok.kind hg (Calls.loadGlobal_global (by rw[I.ok.glob];exact I.mod.glob.keeps I.bk) hm h) hd
theorem Z6x {E:Value->Shared->Prop}{pins:List (Addr × Obj)}{s:Shared}{σ:St}{H:Hp}{x:Str}{u:Value}{pos:Pos}{Q:Value->Shared->Prop}(I:Inv X pins σ H s)(hg:Gl X x)(hm:X.mg x=none)(hv:bootBuiltins x=some u)(h:Q u s)
  (hn:x≠"__name__":=by decide) (hd:(x == ("__debug__":Str))=false:=by decide):wpAny (model X.prog X.w) X.A (eval (.Name x pos) X.env) Q E s:=by
 obtain⟨mb,h1,h2⟩:=I.mod.blt
 exact Calls.Name_function_global I.ok.kind hg (Calls.loadGlobal_builtin (by rw[I.ok.glob];exact I.mod.glob.keeps I.bk) hm (by rw[I.ok.blt];exact h1.keeps I.bk) ((h2 x hn).trans hv) h) hd
theorem Z3g {x:Str}{v:V}{u:Value}{pos:Pos}(hg:Gl X x)(hm:X.mg x=some u)(r:RelV v u)(hd:(x == ("__debug__":Str))=false:=by decide):PE X (.Name x pos) (tC v) :=
 fun _ _ _ H _ I h=>Y7p I hg hm ⟨v,H,I,r,h⟩ hd
theorem Z2x {x:Str}{v:V}{u:Value}{pos:Pos}(hg:Gl X x)(hm:X.mg x=none)(hv:bootBuiltins x=some u)(r:RelV v u)(hn:x≠"__name__":=by decide)(hd:(x == ("__debug__":Str))=false:=by decide):PE X (.Name x pos) (tC v) :=
 fun _ _ _ H _ I h=>Z6x I hg hm hv ⟨v,H,I,r,h⟩ hn hd
variable {a b:Expr}{ta tb:TE}{pos:Pos}
def PC (X:Cx)(op:CmpOp)(a b:Expr)(t:TE):Prop :=
 ∀ (pins:List (Addr × Obj)) (s:Shared) (σ:St) (H:Hp) (Q:VK),Inv X pins σ H s->t σ H Q →
  wpAny (model X.prog X.w) X.A (eval a X.env) (fun v s₁=>wpAny (model X.prog X.w) X.A (eval b X.env) (fun u s₂=>wpAny (model X.prog X.w) X.A (compareOp op v u) (EP X pins σ Q) X.xe s₂) X.xe s₁) X.xe s
def tB (t:TE):TT:=fun σ H Q=>t σ H fun x H1=>∃ c,x=.bl c/\Q c H1
theorem Y6f {op:CmpOp}{t:TE}(h:PC X op a b t)(h1:behindInMarks op b=false:=by first | exact nobehind _ (by decide) (by decide) | rfl):PT X (.Compare a [op] [b] pos) (tB t):=by
 intro pins s σ H Q I hw
 refine wpAny_isTrue_Compare1 (thn (h pins s σ H _ I hw) fun v s1 h1=>thn h1 fun u s2 h2=>thn h2 fun c s3 ⟨x,H1,I1,r1,q1⟩=>?_) h1
 obtain⟨d,rfl,q⟩:=q1
 cases r1
 exact wpAny_truthy_bool ⟨H1,I1,q⟩
theorem Z1l {e:Expr}{t:TE}(h:PE X e t)(he:∀ whole,isTrue e X.env whole=(do let v ← whole;standAt e.pos;holding [v] (truthy v)):=by intro _;rfl):PT X e (tB t):=by
 intro pins s σ H Q I hw
 refine isTrue_plain (thn (h pins s σ H _ I hw) fun v s1 ⟨x,H1,I1,r1,q1⟩=>?_) (he _)
 obtain⟨d,rfl,q⟩:=q1
 cases r1
 exact wpAny_truthy_bool ⟨H1,I1,q⟩
variable {tA tB':TT}{rest:List Expr}
def tAnd (t u:TT):TT:=fun σ H Q=>t σ H fun c H1=>if c=true then u σ H1 Q else Q false H1
def tOr (t u:TT):TT:=fun σ H Q=>t σ H fun c H1=>if c=true then Q true H1 else u σ H1 Q
def tNot (t:TT):TT:=fun σ H Q=>t σ H fun c H1=>Q (!c) H1
theorem Z4q (ha:PT X a tA):PW X (.BoolOp .And [a] pos) tA:=by
 intro wh pins s σ H Q I h
 refine isTrue_and (thn (ha pins s σ H Q I h) fun c s1 e=>?_)
 cases c with
 | true=>exact isTrue_and_nil e
 | false=>exact e
theorem Z3w (ha:PT X a tA):PW X (.BoolOp .Or [a] pos) tA:=by
 intro wh pins s σ H Q I h
 refine isTrue_or (thn (ha pins s σ H Q I h) fun c s1 e=>?_)
 cases c with
 | false=>exact isTrue_or_nil e
 | true=>exact e
theorem Z6q (ha:PT X a tA)(hb:PW X (.BoolOp .And (b::rest) pos) tB'):PW X (.BoolOp .And (a::b::rest) pos) (tAnd tA tB'):=by
 intro wh pins s σ H Q I h
 refine isTrue_and (thn (ha pins s σ H _ I h) fun c s1 ⟨H1,I1,q1⟩=>?_)
 cases c with
 | true=>exact hb wh pins s1 σ H1 Q I1 q1
 | false=>exact⟨H1,I1,q1⟩
theorem Z3y (ha:PT X a tA)(hb:PW X (.BoolOp .Or (b::rest) pos) tB'):PW X (.BoolOp .Or (a::b::rest) pos) (tOr tA tB'):=by
 intro wh pins s σ H Q I h
 refine isTrue_or (thn (ha pins s σ H _ I h) fun c s1 ⟨H1,I1,q1⟩=>?_)
 cases c with
 | true=>exact⟨H1,I1,q1⟩
 | false=>exact hb wh pins s1 σ H1 Q I1 q1
theorem Z2f (ha:PT X a tA):PT X (.UnaryOp .Not a pos) (tNot tA):=by
 intro pins s σ H Q I h
 exact isTrue_not (ha pins s σ H (fun c H1=>Q (!c) H1) I h)
def tAndV (ta tb:TE):TE:=fun σ H Q=>ta σ H fun x H1=>∃ c,x=.bl c/\if c=true then tb σ H1 Q else Q (.bl false) H1
def tOrV (ta tb:TE):TE:=fun σ H Q=>ta σ H fun x H1=>∃ c,x=.bl c/\if c=true then Q (.bl true) H1 else tb σ H1 Q
def tNotV (ta:TE):TE:=fun σ H Q=>ta σ H fun x H1=>∃ c,x=.bl c/\Q (.bl (!c)) H1
theorem Z3x {op}{t:TE}(h:PE X a t):PE X (.BoolOp op [a] pos) t:=fun pins s σ H Q I hw=>BoolOp_one (h pins s σ H Q I hw)
theorem Z5c (ha:PE X a ta)(hb:PE X (.BoolOp .And (b::rest) pos) tb):PE X (.BoolOp .And (a::b::rest) pos) (tAndV ta tb):=by
 intro pins s σ H Q I h
 refine BoolOp_and (thn (ha pins s σ H _ I h) fun v s1 ⟨x,H1,I1,r1,q1⟩=>?_)
 obtain⟨c,rfl,q1⟩:=q1
 cases r1
 refine wpAny_truthy_bool ?_
 cases c with
 | true=>exact hb pins s1 σ H1 Q I1 q1
 | false=>exact⟨.bl false,H1,I1,rfl,q1⟩
theorem X3q (ha:PE X a ta)(hb:PE X (.BoolOp .Or (b::rest) pos) tb):PE X (.BoolOp .Or (a::b::rest) pos) (tOrV ta tb):=by
 intro pins s σ H Q I h
 refine BoolOp_or (thn (ha pins s σ H _ I h) fun v s1 ⟨x,H1,I1,r1,q1⟩=>?_)
 obtain⟨c,rfl,q1⟩:=q1
 cases r1
 refine wpAny_truthy_bool ?_
 cases c with
 | false=>exact hb pins s1 σ H1 Q I1 q1
 | true=>exact⟨.bl true,H1,I1,rfl,q1⟩
theorem Y3e (ha:PE X a ta):PE X (.UnaryOp .Not a pos) (tNotV ta):=by
 intro pins s σ H Q I h
 refine UnaryOp_ (thn (ha pins s σ H _ I h) fun v s1 ⟨x,H1,I1,r1,q1⟩=>?_)
 obtain⟨c,rfl,q1⟩:=q1
 cases r1
 exact not_of (wpAny_truthy_bool ⟨.bl (!c),H1,I1,rfl,q1⟩)
def tIf (t:TT)(ta tb:TE):TE:=fun σ H Q=>t σ H fun c H1=>if c=true then ta σ H1 Q else tb σ H1 Q
theorem Z5a {c:Expr}(hc:PT X c tA)(ha:PE X a ta)(hb:PE X b tb):PE X (.IfExp c a b pos) (tIf tA ta tb):=by
 intro pins s σ H Q I h
 refine wpAny_IfExp (thn (hc pins s σ H _ I h) fun d s1 ⟨H1,I1,q1⟩=>?_)
 cases d with
 | true=>exact ha pins s1 σ H1 Q I1 q1
 | false=>exact hb pins s1 σ H1 Q I1 q1
end
def SqL (K:PySem.W.Frag)(H:Hp)(a:Addr)(xs:List V):Prop :=
 Rd H a (.lst xs) ∨
  ∃ (o:Obj) (its:Array Value) (n:Nat),K.lookup a=some o/\o.cls=.type "list"/\o.dict=none/\o.data=.seq its n/\its.size<=sizeLine/\Vals xs its.toList
def SqT (K:PySem.W.Frag)(H:Hp)(a:Addr)(xs:List V):Prop :=
 Rd H a (.tup xs) ∨
  ∃ (o:Obj) (its:Array Value) (n:Nat),K.lookup a=some o/\o.cls=.type "tuple"/\o.data=.seq its n/\its.size<=sizeLine/\Vals xs its.toList
def absV:Value->Option V
 | .none=>some .non
 | .bool b=>some (.bl b)
 | .int i _=>some (.int i)
 | .str x _=>some (.str x)
 | .bytes b _=>some (.byt b)
 | .float b _=>some (.flt b)
 | .ref a=>some (.ref a)
 | .type n=>some (.ty n)
 | _=>none
theorem RelV.abs {x:V}{u:Value}(r:RelV x u):absV u=some x:=by
 cases x with
 | non=>cases r;rfl
 | bl _=>cases r;rfl
 | int _=>obtain⟨t,rfl⟩:=r;rfl
 | str _=>obtain⟨t,rfl⟩:=r;rfl
 | byt _=>obtain⟨t,rfl⟩:=r;rfl
 | flt _=>obtain⟨t,rfl⟩:=r;rfl
 | ref _=>cases r;rfl
 | ty _=>cases r;rfl
theorem RelV.inj {x y:V}{u:Value}(r:RelV x u)(q:RelV y u):x=y:=Option.some.inj (r.abs.symm.trans q.abs)
theorem Vals.inj {xs ys:List V}{us:List Value}(h:Vals xs us)(h':Vals ys us):xs=ys:=by
 induction h generalizing ys with
 | nil=>cases h';rfl
 | cons r t ih=>cases h' with
  | cons r' t'=>rw[r.inj r',ih t']
section
variable {X:Cx}{pins:List (Addr × Obj)}{σ:St}{H:Hp}{s:Shared}{a:Addr}{xs ys:List V}
theorem SqL.of {K:PySem.W.Frag}(h:H a=some (.lst xs)):SqL K H a xs:=.inl (.inl h)
theorem SqT.of {K:PySem.W.Frag}(h:H a=some (.tup xs)):SqT K H a xs:=.inl (.inl h)
theorem Inv.list (I:Inv X pins σ H s)(h:SqL X.K H a xs):∃ its:List Value,Vals xs its/\PlainL s.heap a its.toArray/\xs.length<=sizeLine:=by
 rcases h with h | ⟨o,its,n,hk,hc,hd,hs,hz,r⟩
 ·obtain⟨z,its,n,r,e⟩:=h.ok I.hok
  exact⟨its,r,⟨_,n,e,rfl,rfl,rfl⟩,z⟩
 ·refine⟨its.toList,r,⟨o,n,I.kIn a o hk,hc,hd,by simpa using hs⟩,?_⟩
  have e:=r.length
  simp only[Array.length_toList] at e
  omega
theorem Inv.tuple (I:Inv X pins σ H s)(h:SqT X.K H a xs):∃ its:List Value,Vals xs its/\IsTup s.heap a its.toArray/\xs.length<=sizeLine:=by
 rcases h with h | ⟨o,its,n,hk,hc,hs,hz,r⟩
 ·obtain⟨z,its,r,p⟩:=h.ok I.hok
  exact⟨its,r,p,z⟩
 ·refine⟨its.toList,r,⟨o,I.kIn a o hk,hc,n,by simpa using hs⟩,?_⟩
  have e:=r.length
  simp only[Array.length_toList] at e
  omega
theorem Inv.list_inj (I:Inv X pins σ H s)(h:SqL X.K H a xs)(h':SqL X.K H a ys):xs=ys:=by
 obtain⟨its,r,⟨o,n,e,_,_,d⟩,_⟩:=I.list h
 obtain⟨its',r',⟨o',n',e',_,_,d'⟩,_⟩:=I.list h'
 rw[e] at e';cases e'
 rw[d] at d'
 injection d' with d1 _
 have:its=its':=by simpa using congrArg Array.toList d1
 subst this
 exact r.inj r'
theorem Inv.tuple_inj (I:Inv X pins σ H s)(h:SqT X.K H a xs)(h':SqT X.K H a ys):xs=ys:=by
 obtain⟨its,r,⟨o,e,_,n,d⟩,_⟩:=I.tuple h
 obtain⟨its',r',⟨o',e',_,n',d'⟩,_⟩:=I.tuple h'
 rw[e] at e';cases e'
 rw[d] at d'
 injection d' with d1 _
 have:its=its':=by simpa using congrArg Array.toList d1
 subst this
 exact r.inj r'
end
abbrev Cx.wish (X:Cx)(E:Value->Shared->Prop):Cx:={ X with xe:=E }
abbrev Cx.nox (X:Cx):Cx:=X.wish fun _ _=>False
theorem Cx.Ok.wish {X:Cx}(ok:X.Ok)(E:Value->Shared->Prop):(X.wish E).Ok :=
 ⟨ok.mod,ok.kind,ok.glob,ok.blt,ok.above,ok.inj,ok.has,ok.cab,ok.hd,ok.frames,ok.stk,ok.exf,ok.bs,ok.bsz,ok.noex,ok.exfs,ok.funs,ok.frf⟩
theorem Cx.Ok.unwish {X:Cx}{E:Value->Shared->Prop}(ok:(X.wish E).Ok):X.Ok :=
 ⟨ok.mod,ok.kind,ok.glob,ok.blt,ok.above,ok.inj,ok.has,ok.cab,ok.hd,ok.frames,ok.stk,ok.exf,ok.bs,ok.bsz,ok.noex,ok.exfs,ok.funs,ok.frf⟩
section
variable {X:Cx}{pins:List (Addr × Obj)}{σ:St}{H:Hp}{s:Shared}{E:Value->Shared->Prop}
theorem Inv.wish (I:Inv X pins σ H s)(E:Value->Shared->Prop):Inv (X.wish E) pins σ H s:=⟨I.ok.wish E,I.os,I.bare,I.base,I.loc,I.cell,I.free,I.freeC,I.pin,I.hok,I.len⟩
theorem Inv.unwish (I:Inv (X.wish E) pins σ H s):Inv X pins σ H s:=⟨I.ok.unwish,I.os,I.bare,I.base,I.loc,I.cell,I.free,I.freeC,I.pin,I.hok,I.len⟩
theorem SP.unwish {D:Ends}{f:Flow}{s':Shared}(h:SP (X.wish E) pins D f s'):SP X pins D f s':=by
 cases f with
 | next=>obtain⟨σ',H',I,q⟩:=h;exact⟨σ',H',I.unwish,q⟩
 | brk=>obtain⟨σ',H',I,q⟩:=h;exact⟨σ',H',I.unwish,q⟩
 | cont=>obtain⟨σ',H',I,q⟩:=h;exact⟨σ',H',I.unwish,q⟩
 | ret u=>obtain⟨v,σ',H',I,r,q⟩:=h;exact⟨v,σ',H',I.unwish,r,q⟩
theorem PSs.nox {st:List Stmt}{t:TS}(h:PSs X.nox st t):PSs X st t:=fun pins s σ H D I hw =>
 wpAny_mono (h pins s σ H D (I.wish _) hw) (fun _ _ q=>q.unwish) fun _ _ z=>False.elim z
end
section
variable {X:Cx}{st:Stmt}{rest:List Stmt}{t u:TS}{e:Expr}{te:TE}{pos:Pos}
def tNext:TS:=fun D σ H=>D.nx σ H
def tSeq (t u:TS):TS:=fun D σ H=>t { D with nx:=u D } σ H
theorem Z0p:PSs X [] tNext:=fun _ _ σ H _ I h=>wpAny_execs_nil ⟨σ,H,I,h⟩
theorem Z0e (h1:PS X st t)(h2:PSs X rest u):PSs X (st::rest) (tSeq t u):=by
 intro pins s σ H D I h
 refine wpAny_execs_cons (thn (h1 pins s σ H { D with nx:=u D } I h) fun f s1 q=>?_)
 cases f with
 | next =>
  obtain⟨σ',H',I',q⟩:=q
  exact h2 pins s1 σ' H' D I' q
 | ret v=>exact q
 | brk=>exact q
 | cont=>exact q
theorem Z0g (h1:PS X st t):PSs X [st] t:=by
 intro pins s σ H D I h
 refine wpAny_execs_cons (thn (h1 pins s σ H D I h) fun f s1 q=>?_)
 cases f with
 | next=>exact wpAny_execs_nil q
 | ret v=>exact q
 | brk=>exact q
 | cont=>exact q
theorem Inv.quiet {pins:List (Addr × Obj)}{σ:St}{H:Hp}{s:Shared}(I:Inv X pins σ H s):interactive X.env=false:=by simp[interactive,I.ok.kind]
def tDrop (te:TE):TS:=fun D σ H=>te σ H fun _ H1=>D.nx σ H1
theorem Z3i (he:PE X e te)(hs:swapsWith e none pos.line X.env=pure false:=by rfl):PS X (.Expr e pos) (tDrop te):=by
 intro pins s σ H D I h
 exact wpAny_Expr_any (thn (he pins s σ H _ I h) fun v s1 ⟨x,H1,I1,r1,q1⟩=>⟨σ,H1,I1,q1⟩) I.quiet hs
def tRet (te:TE):TS:=fun D σ H=>te σ H D.rt
theorem Z0j (he:PE X e te):PS X (.Return (some e) pos) (tRet te):=by
 intro pins s σ H D I h
 exact wpAny_Return_some (thn (he pins s σ H _ I h) fun v s1 ⟨x,H1,I1,r1,q1⟩=>⟨x,σ,H1,I1,r1,q1⟩)
def tIfS (c:TT)(t u:TS):TS:=fun D σ H=>c σ H fun b H1=>if b=true then t D σ H1 else u D σ H1
theorem Z0y {c:Expr}{a b:List Stmt}{tc:TT}(hc:PT X c tc)(ha:PSs X a t)(hb:PSs X b u):PS X (.If c a b pos) (tIfS tc t u):=by
 intro pins s σ H D I h
 refine wpAny_If (thn (hc pins s σ H _ I h) fun d s1 ⟨H1,I1,q1⟩=>?_)
 cases d with
 | true=>exact ha pins s1 σ H1 D I1 q1
 | false=>exact hb pins s1 σ H1 D I1 q1
end
abbrev TG:=V->St->Hp->(St->Hp->Prop)->Prop
abbrev TGs:=List V->St->Hp->(St->Hp->Prop)->Prop
def PG (X:Cx)(target:Expr)(t:TG):Prop :=
 ∀ (pins:List (Addr × Obj)) (s:Shared) (σ:St) (H:Hp) (v:V) (u:Value) (Q:St->Hp->Prop),Inv X pins σ H s->RelV v u->t v σ H Q →
  wpAny (model X.prog X.w) X.A (assign target X.env u) (fun _ s'=>∃ σ' H',Inv X pins σ' H' s'/\Q σ' H') X.xe s
def PGs (X:Cx)(ts:List Expr)(t:TGs):Prop :=
 ∀ (pins:List (Addr × Obj)) (s:Shared) (σ:St) (H:Hp) (vs:List V) (us:List Value) (Q:St->Hp->Prop),Inv X pins σ H s->Vals vs us->t vs σ H Q →
  wpAny (model X.prog X.w) X.A (assignInOrder ((assignEach ts X.env).map (·.2)) us) (fun _ s'=>∃ σ' H',Inv X pins σ' H' s'/\Q σ' H') X.xe s
abbrev TSet:=V->V->V->Hp->(Hp->Prop)->Prop
def PSet (X:Cx)(t:TSet):Prop :=
 ∀ (pins:List (Addr × Obj)) (s:Shared) (σ:St) (H:Hp) (o i v:V) (ov iv u:Value) (Q:Hp->Prop),Inv X pins σ H s->RelV o ov->RelV i iv->RelV v u->t o i v H Q →
  wpAny (model X.prog X.w) X.A (setItem ov iv u) (fun _ s'=>∃ H',Inv X pins σ H' s'/\Q H') X.xe s
section
variable {X:Cx}{pos:Pos}
def gName (i:Nat):TG:=fun v σ H Q=>Q (σ.set i (some v)) H
theorem Z0m {i:Nat}{x:Str}(hN:X.N.Nodup)(hi:X.N[i]?=some x)(hx:Loc X.env.scope x)(hf:X.fn x=true∨X.env.scope.names.lookup x=some .local:=by first | exact .inl rfl | exact .inr rfl | assumption):PG X (.Name x pos) (gName i):=by
 intro pins s σ H v u Q I r h
 exact wpAny_assign_Name (Y2j I hN hi hx r (fun s' I'=>⟨_,H,I',h⟩) hf)
def gNil:TGs:=fun vs σ H Q=>vs=[]/\Q σ H
def gCons (t:TG)(u:TGs):TGs:=fun vs σ H Q=>∃ v r,vs=v::r/\t v σ H fun σ' H'=>u r σ' H' Q
theorem Z3j:PGs X [] gNil:=by
 intro pins s σ H vs us Q I r h
 obtain⟨e,h⟩:=h
 subst e
 cases r
 exact assignInOrder_nil ⟨σ,H,I,h⟩
theorem Z1b {e:Expr}{es:List Expr}{t:TG}{u:TGs}(h1:PG X e t)(h2:PGs X es u)
  (hs:(assignEach (e::es) X.env).map (·.2)=assign e X.env::(assignEach es X.env).map (·.2):=by rfl):PGs X (e::es) (gCons t u):=by
 intro pins s σ H vs us Q I r h
 obtain⟨v,vr,e1,h⟩:=h
 subst e1
 cases r with
 | cons r rr =>
  rw[hs]
  refine assignInOrder_cons (thn (h1 pins s σ H _ _ _ I r h) fun _ s1 ⟨σ1,H1,I1,q1⟩=>?_)
  exact h2 pins s1 σ1 H1 _ _ Q I1 rr q1
def gTup (K:PySem.W.Frag)(n:Nat)(t:TGs):TG:=fun v σ H Q=>∃ a xs,v=.ref a/\SqT K H a xs/\xs.length=n/\t xs σ H Q
theorem Z4n {es:List Expr}{k:Nat}{t:TGs}{n:Nat}(hc:X.calm=true)(h:PGs X es t)
  (hn:(assignEach es X.env).length=n:=by rfl) (hst:(assignEach es X.env).findIdx? (·.1)=none:=by rfl):PG X (.Tuple es k pos) (gTup X.K n t):=by
 intro pins s σ H v u Q I r hw
 obtain⟨a,xs,e1,hq,hl,hw⟩:=hw
 subst e1
 cases r
 obtain⟨its,rv,ht,hz⟩:=I.tuple hq
 refine assign_Tuple_tuple (I.ok.hd hc) ht (by simp[hn,<-hl,rv.length]) hst fun h' hx=>?_
 have I1:Inv X pins σ H { s with heap:=h' }:=I.kept (t':=s.toks) fun b o e=>hx b o (Nat.ne_of_lt (Heap.lt_size e)) e
 exact h pins _ σ H xs _ Q I1 (by simpa using rv) hw
def gSub (to ti:TE)(t:TSet):TG:=fun v σ H Q=>to σ H fun o H1=>ti σ H1 fun i H2=>t o i v H2 fun H3=>Q σ H3
theorem Z9q {o i:Expr}{to ti:TE}{t:TSet}(ho:PE X o to)(hi:PE X i ti)(hs:PSet X t)
  (ha:∀ v,assign (.Subscript o i pos) X.env v=(do
   let ov ← holding [v] (eval o X.env)
   let iv ← holding [v,ov] (eval i X.env)
   standAt pos
   holding [v,ov,iv] (setItem ov iv v)
   release [v,ov,iv] []):=by intro _;rfl):PG X (.Subscript o i pos) (gSub to ti t):=by
 intro pins s σ H v u Q I r h
 rw[ha]
 refine wpAny_bind (wpAny_holding (thn (ho pins s σ H _ I h) fun ov s1 ⟨x,H1,I1,r1,q1⟩=>?_))
 refine wpAny_bind (wpAny_holding (thn (hi pins s1 σ H1 _ I1 q1) fun iv s2 ⟨y,H2,I2,r2,q2⟩=>?_))
 refine wpAny_bind (wpAny_standAt (wpAny_bind (wpAny_holding (thn (hs pins s2 σ H2 x y v ov iv u _ I2 r1 r2 r q2) fun _ s3 ⟨H3,I3,q3⟩=>?_))))
 exact wpAny_release ⟨σ,H3,I3,q3⟩
def tAsg (te:TE)(g:TG):TS:=fun D σ H=>te σ H fun x H1=>g x σ H1 D.nx
theorem Z5t {tg e:Expr}{te:TE}{g:TG}(he:PE X e te)(hg:PG X tg g)(hs:swapsWithSole [tg] e pos.line X.env=pure false:=by rfl)(hw:swappedStores [tg] e X.env=pure none:=by rfl)
  (h1:(assignEach [tg] X.env).map (·.2)=[assign tg X.env]:=by rfl):PS X (.Assign [tg] e pos) (tAsg te g):=by
 intro pins s σ H D I h
 refine wpAny_Assign_stores (thn (he pins s σ H _ I h) fun v s1 ⟨x,H1,I1,r1,q1⟩=>?_) hs hw
 rw[h1]
 exact thn (hg pins s1 σ H1 x v _ I1 r1 q1) fun _ s2 q=>q
theorem Z0r {i:Nat}{x:Str}{e:Expr}{te:TE}{pos':Pos}(hN:X.N.Nodup)(hi:X.N[i]?=some x)(hx:Loc X.env.scope x)(he:PE X e te)(hs:swapsWith e (some (.Name x pos')) pos.line X.env=pure false:=by rfl)(hf:X.fn x=true∨X.env.scope.names.lookup x=some .local:=by first | exact .inl rfl | exact .inr rfl | assumption) :
  PS X (.Assign [.Name x pos'] e pos) (tAsg te (gName i)):=by
 intro pins s σ H D I h
 refine wpAny_Assign_Name (thn (he pins s σ H _ I h) fun v s1 ⟨y,H1,I1,r1,q1⟩=>?_) hs
 exact Y2j I1 hN hi hx r1 (fun s2 I2=>⟨_,H1,I2,q1⟩) hf
end
section
variable {X:Cx}{pos:Pos}
def tWhile (c:TT)(tb:TS):TS:=fun D σ H=>∃ W:Nat->St->Hp->Prop,(∃ m,W m σ H)/\∀ m σ H,W m σ H →
 c σ H fun b H1=>if b=true then ∃ N:St->Hp->Prop,(∀ σ' H',N σ' H'->∃ m',m'<m/\W m' σ' H')/\tb { D with nx:=N,ct:=N,bk:=D.nx } σ H1 else D.nx σ H1
theorem Z6a {c:Expr}{body:List Stmt}{tc:TT}{tb:TS}(hp:PassesOwn (model X.prog X.w) X.A X.env X.xe)(hc:PT X c tc)(hb:PSs X body tb):PS X (.While c body [] pos) (tWhile tc tb):=by
 intro pins s σ H D I h
 obtain⟨W,⟨m0,w0⟩,turn⟩:=h
 refine wpAny_While (codeAny_whileLoop (fun n s'=>∃ σ' H',Inv X pins σ' H' s'/\W n σ' H') ?_ m0 ⟨σ,H,I,w0⟩)
 rintro n s1 ⟨σ1,H1,I1,w1⟩
 refine wpAny_passesOwn hp (thn (hc pins s1 σ1 H1 _ I1 (turn n σ1 H1 w1)) fun b s2 ⟨H2,I2,q2⟩=>?_)
 cases b with
 | true =>
  obtain⟨N,hN,q2⟩:=q2
  rw[if_pos rfl]
  refine wpAny_passesOwn hp (thn (hb pins s2 σ1 H2 _ I2 q2) fun f s3 q3=>?_)
  cases f with
  | next =>
   obtain⟨σ3,H3,I3,n3⟩:=q3
   obtain⟨m',hm,w3⟩:=hN σ3 H3 n3
   exact⟨m',hm,σ3,H3,I3,w3⟩
  | cont =>
   obtain⟨σ3,H3,I3,n3⟩:=q3
   obtain⟨m',hm,w3⟩:=hN σ3 H3 n3
   exact⟨m',hm,σ3,H3,I3,w3⟩
  | brk=>exact q3
  | ret v=>exact q3
 | false =>
  rw[if_neg Bool.false_ne_true]
  exact wpAny_execs_nil ⟨σ1,H2,I2,q2⟩
end
structure It where
 go:Nat->Hp->Prop
 yld:Nat->Hp->V->Hp->Prop
 stop:Nat->Hp->Prop
def FpOk (X:Cx)(pins:List (Addr × Obj))(H:Hp)(b:Addr):Prop :=
 H b=none/\b≠X.env.locals/\b ∉ X.fs/\(b∈X.ex∨X.s₀.heap.objs.size<=b)/\(∀ x c,X.env.cells.lookup x=some c->c≠b)/\∀ p∈X.pn++pins,p.1≠b
theorem Inv.fpOk {X:Cx}{pins:List (Addr × Obj)}{σ:St}{H H':Hp}{s:Shared}{b:Addr}(I:Inv X pins σ H s)(hb:s.heap.objs.size<=b)(hn:H' b=none):FpOk X pins H' b:=by
 refine⟨hn,Nat.ne_of_gt (Nat.lt_of_lt_of_le I.lt hb),I.nofs hb,.inr (Nat.le_trans I.sz hb),fun x c e z=>?_,fun p hp z=>?_⟩
 ·obtain⟨v,q⟩:=I.cell x c e
  exact absurd (Nat.lt_of_lt_of_le q.lt (by rw[z];exact hb)) (Nat.lt_irrefl _)
 ·exact absurd (Nat.lt_of_lt_of_le (Heap.lt_size (I.pin p hp).1) (by rw[z];exact hb)) (Nat.lt_irrefl _)
structure Turn (P:Program) (w:World) (K:PySem.W.Frag) (tg:Expr) (J:It) (fp:List Addr) (it:Addr) (tn:Nat->Heap->Prop):Prop where
 mem:it∈fp
 obj:∀ i h,tn i h->∀ b∈fp,∃ o,h.get? b=some o/\∀ v,o.data≠.cell v
 keep:∀ i h h',tn i h->(∀ b∈fp,∀ o,h.get? b=some o->h'.get? b=some o)->tn i h'
 item:∀ (X:Cx),X.prog=P->X.w=w->X.K=K->X.calm=true->∀ (i:Nat) (pins:List (Addr × Obj)) (s:Shared) (σ:St) (H:Hp) (E:Value->Shared->Prop),Inv X pins σ H s->(∀ b∈fp,FpOk X pins H b)->tn i s.heap->J.go i H →
  wpAny (model P w) X.A (pyNext (.ref it)) (fun r s1=>∃ u,r=some u ∧
   wpAny (model P w) X.A (letOwnedTupleGo tg (.ref it) u) (fun _ s2=>∃ x H',Inv X pins σ H' s2/\RelV x u/\J.yld i H x H'/\tn (i+1) s2.heap/\∀ b∈fp,H' b=none) E s1) E s
 done:∀ (X:Cx),X.prog=P->X.w=w->X.K=K->X.calm=true->∀ (i:Nat) (pins:List (Addr × Obj)) (s:Shared) (σ:St) (H:Hp) (E:Value->Shared->Prop),Inv X pins σ H s->(∀ b∈fp,FpOk X pins H b)->tn i s.heap->J.stop i H →
  wpAny (model P w) X.A (pyNext (.ref it)) (fun r s1=>r=none/\Inv X pins σ H s1) E s
 self:∀ (A:Around) (i:Nat) (s:Shared) (Q:Value->Shared->Prop) (E:Value->Shared->Prop),tn i s.heap->Q (.ref it) s->wpAny (model P w) A (pyIter (.ref it)) Q E s
abbrev TI:=St->Hp->(It->Hp->Prop)->Prop
def PIE (X:Cx)(pins:List (Addr × Obj))(σ:St)(tg:Expr)(R:It->Hp->Prop)(itv:Value)(s2:Shared):Prop :=
 ∃ (it:Addr) (fp:List Addr) (tn:Nat->Heap->Prop) (J:It) (H':Hp),itv=.ref it/\Inv X pins σ H' s2/\Turn X.prog X.w X.K tg J fp it tn/\tn 0 s2.heap/\(∀ b∈fp,FpOk X pins H' b)/\R J H'
def PI (X:Cx)(tg iter:Expr)(wi:TI):Prop :=
 ∀ (pins:List (Addr × Obj)) (s:Shared) (σ:St) (H:Hp) (R:It->Hp->Prop),Inv X pins σ H s->wi σ H R →
  wpAny (model X.prog X.w) X.A (eval iter X.env) (fun v s1=>wpAny (model X.prog X.w) X.A (pyIter v) (PIE X pins σ tg R) X.xe s1) X.xe s
theorem X5l {M:Model}{A:Around}{E:Value->Shared->Prop}{s:Shared}{tg:Expr}{it:Addr}{u:Value}{o:Obj}{n:String}{vs:Array Value}{Q:Unit->Shared->Prop}(ho:s.heap.get? it=some o)(hc:o.cls=.type n)(hd:o.data=.fields vs)
  (hn:["enumerate","zip","dict_itemiterator","dict_reverseitemiterator","odict_iterator","itertools.zip_longest","itertools.pairwise"].contains n=false) (hQ:Q () s):wpAny M A (letOwnedTupleGo tg (.ref it) u) Q E s:=by
 unfold letOwnedTupleGo
 cases tg<;>first
  | exact wpAny_pure hQ
  | (cases u<;>first
    | exact wpAny_pure hQ
    | (refine wpAny_bind (wpAny_load ho ?_);rw[hc,hd];show wpAny M A (if (["enumerate","zip","dict_itemiterator","dict_reverseitemiterator","odict_iterator","itertools.zip_longest","itertools.pairwise"].contains n && vs[0]? == some (rawInt _))=true then _ else _) Q E s;rw[if_neg (by intro h;rw[hn,Bool.false_and] at h;cases h)];exact wpAny_pure hQ))
def Itl (K:PySem.W.Frag)(a:Addr):It :=
 ⟨fun i H=>∃ xs x,SqL K H a xs/\xs[i]?=some x,fun i H x H'=>H'=H/\∀ xs,SqL K H a xs->xs[i]?=some x,fun i H=>∃ xs,SqL K H a xs/\xs.length<=i⟩
def Itt (K:PySem.W.Frag)(a:Addr):It :=
 ⟨fun i H=>∃ xs x,SqT K H a xs/\xs[i]?=some x,fun i H x H'=>H'=H/\∀ xs,SqT K H a xs->xs[i]?=some x,fun i H=>∃ xs,SqT K H a xs/\xs.length<=i⟩
def Itr (lo:Int)(n:Nat):It:=⟨fun i _=>i<n,fun i H x H'=>H'=H/\x=.int (lo+i),fun i _=>n<=i⟩
theorem Y5g {P:Program}{w:World}{K:PySem.W.Frag}{tg:Expr}(a it:Addr):Turn P w K tg (Itl K a) [it] it (fun i h=>h.IsListIter it a i) where
 mem:=by simp
 obj:=fun i h st b hb=>by
  have e:b=it:=by simpa using hb
  subst e
  obtain⟨o,e,c,d⟩:=st
  exact⟨o,e,fun v z=>by rw[d] at z;cases z⟩
 keep:=fun i h h' st k=>st.at fun o e=>k it (by simp) o e
 item:=by
  intro X hP hw hK hc i pins s σ H E I hf st hg
  subst hP hw hK
  obtain⟨xs,x,hq,hx⟩:=hg
  obtain⟨its,rv,p,hz⟩:=I.list hq
  obtain⟨u,hu,ru⟩:=rv.get hx
  obtain⟨f0,f1,f2,f3,f4,f5⟩:=hf it (by simp)
  refine wpAny_pyNext_list_item st p.isList (x:=u) (by simpa using hu) fun h' st' sb=>?_
  have I1:Inv X pins σ H { s with heap:=h' }:=I.turned (t':=s.toks) (fun b o hb e=>(sb.2 b hb).trans e) f0 f1 f3 f4 f5
  obtain⟨o,e,c,d⟩:=id st'
  exact⟨u,rfl,X5l (s:={ s with heap:=h' }) e c d (by decide) ⟨x,H,I1,ru,⟨rfl,fun ys hy=>by rw[I.list_inj hy hq];exact hx⟩,st',fun b hb=>(hf b hb).1⟩⟩
 done:=by
  intro X hP hw hK hc i pins s σ H E I hf st hg
  subst hP hw hK
  obtain⟨xs,hq,hx⟩:=hg
  obtain⟨its,rv,p,hz⟩:=I.list hq
  obtain⟨f0,f1,f2,f3,f4,f5⟩:=hf it (by simp)
  have hl:=rv.length
  exact wpAny_pyNext_list_end (I.ok.hd hc) st p.isList (by simp;omega) fun h' eb=>⟨rfl,I.turned (t':=s.toks) (fun b o hb e=>eb b o hb e) f0 f1 f3 f4 f5⟩
 self:=fun _ _ _ _ _ st h=>wpAny_pyIter_listiter st h
theorem Y4k {P:Program}{w:World}{K:PySem.W.Frag}{tg:Expr}(a it:Addr):Turn P w K tg (Itt K a) [it] it (fun i h=>h.IsTupleIter it a i) where
 mem:=by simp
 obj:=fun i h st b hb=>by
  have e:b=it:=by simpa using hb
  subst e
  obtain⟨o,e,c,d⟩:=st
  exact⟨o,e,fun v z=>by rw[d] at z;cases z⟩
 keep:=fun i h h' st k=>st.at fun o e=>k it (by simp) o e
 item:=by
  intro X hP hw hK hc i pins s σ H E I hf st hg
  subst hP hw hK
  obtain⟨xs,x,hq,hx⟩:=hg
  obtain⟨its,rv,p,hz⟩:=I.tuple hq
  obtain⟨u,hu,ru⟩:=rv.get hx
  obtain⟨f0,f1,f2,f3,f4,f5⟩:=hf it (by simp)
  refine wpAny_pyNext_tuple_item st (show s.heap.IsTuple a its.toArray from p) (x:=u) (by simpa using hu) fun h' st' sb=>?_
  have I1:Inv X pins σ H { s with heap:=h' }:=I.turned (t':=s.toks) (fun b o hb e=>(sb.2 b hb).trans e) f0 f1 f3 f4 f5
  obtain⟨o,e,c,d⟩:=id st'
  exact⟨u,rfl,X5l (s:={ s with heap:=h' }) e c d (by decide) ⟨x,H,I1,ru,⟨rfl,fun ys hy=>by rw[I.tuple_inj hy hq];exact hx⟩,st',fun b hb=>(hf b hb).1⟩⟩
 done:=by
  intro X hP hw hK hc i pins s σ H E I hf st hg
  subst hP hw hK
  obtain⟨xs,hq,hx⟩:=hg
  obtain⟨its,rv,p,hz⟩:=I.tuple hq
  obtain⟨f0,f1,f2,f3,f4,f5⟩:=hf it (by simp)
  have hl:=rv.length
  exact wpAny_pyNext_tuple_end (I.ok.hd hc) st (show s.heap.IsTuple a its.toArray from p) (by simp;omega) fun h' eb=>⟨rfl,I.turned (t':=s.toks) (fun b o hb e=>eb b o hb e) f0 f1 f3 f4 f5⟩
 self:=fun _ _ _ _ _ st h=>wpAny_pyIter_tupleiter st h
theorem Y4l {P:Program}{w:World}{K:PySem.W.Frag}{tg:Expr}(it:Addr)(lo:Int)(n:Nat):Turn P w K tg (Itr lo n) [it] it (fun i h=>IsRangeIter h it (lo+(i:Nat)*1) ((n:Int)-(i:Nat)) 1) where
 mem:=by simp
 obj:=fun i h st b hb=>by
  have e:b=it:=by simpa using hb
  subst e
  exact⟨_,st,fun v z=>by
   have z':Data.fields _=Data.cell v:=z
   cases z'⟩
 keep:=fun i h h' st k=>k it (by simp) _ st
 item:=by
  intro X hP hw hK hc i pins s σ H E I hf st hg
  subst hP hw hK
  obtain⟨f0,f1,f2,f3,f4,f5⟩:=hf it (by simp)
  have W:=Walks.range (prog:=X.prog) (w:=X.w) (I.ok.hd hc) it lo 1 n
  refine W.item i s _ _ hg st fun v h' tk hv st' kk=>?_
  obtain⟨t,rfl⟩:=hv
  have I1:Inv X pins σ H { s with heap:=h',toks:=tk }:=I.turned (fun b o hb e=>kk b o (by simpa using hb) e) f0 f1 f3 f4 f5
  refine⟨_,rfl,X5l (s:={ s with heap:=h',toks:=tk }) (n:="range_iterator") st' rfl rfl (by decide) ⟨.int (lo+i),H,I1,⟨t,?_⟩,⟨rfl,rfl⟩,st',fun b hb=>(hf b hb).1⟩⟩
  rw[Int.mul_one]
 done:=by
  intro X hP hw hK hc i pins s σ H E I hf st hg
  subst hP hw hK
  obtain⟨f0,f1,f2,f3,f4,f5⟩:=hf it (by simp)
  exact wpAny_pyNext_range_end (I.ok.hd hc) st (by have:n<=i:=hg;omega) fun h' eb=>⟨rfl,I.turned (t':=s.toks) (fun b o hb e=>eb b o hb e) f0 f1 f3 f4 f5⟩
 self:=fun _ _ _ _ _ st h=>wpAny_pyIter_rangeiter st h
section
variable {X:Cx}{tg:Expr}
def iList (K:PySem.W.Frag)(tl:TE):TI:=fun σ H R=>tl σ H fun x H1=>∃ a,x=.ref a/\(∃ xs,SqL K H1 a xs)/\R (Itl K a) H1
def iTup (K:PySem.W.Frag)(tl:TE):TI:=fun σ H R=>tl σ H fun x H1=>∃ a,x=.ref a/\(∃ xs,SqT K H1 a xs)/\R (Itt K a) H1
theorem Z1d {l:Expr}{tl:TE}(hl:PE X l tl):PI X tg l (iList X.K tl):=by
 intro pins s σ H R I h
 refine thn (hl pins s σ H _ I h) fun v s1 ⟨x,H1,I1,r1,q1⟩=>?_
 obtain⟨a,e,⟨xs,hq⟩,q⟩:=q1
 subst e
 cases r1
 obtain⟨its,rv,p,hz⟩:=I1.list hq
 refine wpAny_pyIter_list p.isList ?_
 refine⟨s1.heap.objs.size,[s1.heap.objs.size],_,_,H1,rfl,I1.kept (t':=s1.toks) fun b o e=>Heap.get?_push_of_some _ e,Y5g a _,⟨_,Heap.get?_push_size _ rfl,rfl,rfl⟩,fun b hb=>?_,q⟩
 have e:b=s1.heap.objs.size:=by simpa using hb
 subst e
 exact I1.fpOk (Nat.le_refl _) (I1.hok.fresh (Nat.le_refl _))
theorem Y3c {l:Expr}{tl:TE}(hl:PE X l tl):PI X tg l (iTup X.K tl):=by
 intro pins s σ H R I h
 refine thn (hl pins s σ H _ I h) fun v s1 ⟨x,H1,I1,r1,q1⟩=>?_
 obtain⟨a,e,⟨xs,hq⟩,q⟩:=q1
 subst e
 cases r1
 obtain⟨its,rv,p,hz⟩:=I1.tuple hq
 refine wpAny_pyIter_tuple (show s1.heap.IsTuple a its.toArray from p) ?_
 refine⟨s1.heap.objs.size,[s1.heap.objs.size],_,_,H1,rfl,I1.kept (t':=s1.toks) fun b o e=>Heap.get?_push_of_some _ e,Y4k a _,⟨_,Heap.get?_push_size _ rfl,rfl,rfl⟩,fun b hb=>?_,q⟩
 have e:b=s1.heap.objs.size:=by simpa using hb
 subst e
 exact I1.fpOk (Nat.le_refl _) (I1.hok.fresh (Nat.le_refl _))
theorem Y9p {pins:List (Addr × Obj)}{σ:St}{H:Hp}{s:Shared}{R:It->Hp->Prop}{E:Value->Shared->Prop}{lo hi:Int}{t u v:Tok}{tk:Nat}(I:Inv X pins σ H s)(h1:-(2^62)<=lo)(h2:lo<2^62)(h3:-(2^62)<=hi)(h4:hi<2^62)
  (q:R (Itr lo (hi-lo).toNat) H):wpAny (model X.prog X.w) X.A (pyIter (.ref s.heap.objs.size)) (PIE X pins σ tg R) E { s with heap:=s.heap.push { cls:=.type "range",data:=.fields #[.int lo t,.int hi u,.int 1 v] },toks:=tk }:=by
 refine wpAny_pyIter_range (IsRange.new ..) (small_one h1 h2 h3 h4) ?_
 have I1:Inv X pins σ H { s with heap:=s.heap.push { cls:=.type "range",data:=.fields #[.int lo t,.int hi u,.int 1 v] },toks:=tk }:=I.kept fun b o e=>Heap.get?_push_of_some _ e
 refine⟨(s.heap.push { cls:=.type "range",data:=.fields #[.int lo t,.int hi u,.int 1 v] }).objs.size,[(s.heap.push { cls:=.type "range",data:=.fields #[.int lo t,.int hi u,.int 1 v] }).objs.size],_,_,H,rfl,
  I1.kept (t':=tk) fun b o e=>Heap.get?_push_of_some _ e,Y4l _ lo (hi-lo).toNat,?_,fun b hb=>?_,q⟩
 ·have e1:lo+((0:Nat):Int)*1=lo:=by simp
  have e2:(((hi-lo).toNat:Nat):Int)-((0:Nat):Int)=Builtin.Range.rangeSize lo hi 1:=by rw[rangeSize_one];split<;>omega
  show IsRangeIter _ _ (lo+((0:Nat):Int)*1) ((((hi-lo).toNat:Nat):Int)-((0:Nat):Int)) 1
  rw[e1,e2]
  exact Heap.get?_push_size _ rfl
 ·have e:b=(s.heap.push { cls:=.type "range",data:=.fields #[.int lo t,.int hi u,.int 1 v] }).objs.size:=by simpa using hb
  subst e
  exact I1.fpOk (Nat.le_refl _) (I1.hok.fresh (Nat.le_refl _))
def iRng1 (ta:TA):TI:=fun σ H R=>ta σ H fun vs H1=>∃ j:Int,vs=[.int j]/\-(2^62)<=j/\j<2^62/\R (Itr 0 j.toNat) H1
theorem Z0w {a:Expr}{ta:TA}{p pos:Pos}(hg:Gl X "range")(hm:X.mg "range"=none)(ha:PA X [a] ta)(hs:starEach [a] X.env=[(false,eval a X.env)]:=by rfl):PI X tg (.Call (.Name "range" p) [a] [] pos) (iRng1 ta):=by
 intro pins s σ H R I h
 refine Call_ (Z6x I hg hm boot_range (PyProof.Rows.callWith_type1 (thn (ha pos pins s σ H _ I h) fun us s1 ⟨vs,H1,I1,r1,q1⟩=>?_) hs rfl))
 obtain⟨j,e,q1,q2,q⟩:=q1
 subst e
 cases r1 with
 | cons r rr =>
  cases rr
  obtain⟨t,rfl⟩:=r
  exact call_range_1 (Y9p I1 (by omega) (by omega) q1 q2 (by simpa using q))
def tFor (wi:TI)(g:TG)(tb:TS):TS:=fun D σ H=>wi σ H fun J H1=>∃ W:Nat->Nat->St->Hp->Prop,(∃ m,W 0 m σ H1)/\∀ i m σ H,W i m σ H →
 (J.stop i H/\D.nx σ H)∨(J.go i H/\∃ N:St->Hp->Prop,(∀ σ' H',N σ' H'->∃ m',m'<m/\W (i+1) m' σ' H')/\∀ x H',J.yld i H x H'->g x σ H' fun σ2 H2=>tb { D with nx:=N,ct:=N,bk:=D.nx } σ2 H2)
def pinsAt (fp:List Addr)(h:Heap):List (Addr × Obj):=fp.filterMap fun b=>(h.get? b).map fun o=>(b,o)
theorem Z3a {fp:List Addr}{h:Heap}{b:Addr}{o:Obj}(hb:b∈fp)(e:h.get? b=some o):(b,o)∈pinsAt fp h:=List.mem_filterMap.mpr ⟨b,hb,by rw[e];rfl⟩
theorem Y7e {fp:List Addr}{h:Heap}{p:Addr × Obj}(hp:p∈pinsAt fp h):p.1∈fp/\h.get? p.1=some p.2:=by
 obtain⟨b,hb,e⟩:=List.mem_filterMap.mp hp
 cases q:h.get? b with
 | none=>rw[q] at e;cases e
 | some o =>
  rw[q] at e
  have e':(b,o)=p:=Option.some.inj e
  subst e'
  exact⟨hb,q⟩
theorem Inv.pinned {pins:List (Addr × Obj)}{σ:St}{H:Hp}{s:Shared}{fp:List Addr}(I:Inv X pins σ H s)(hf:∀ b∈fp,FpOk X pins H b)(ho:∀ b∈fp,∃ o,s.heap.get? b=some o/\∀ v,o.data≠.cell v):Inv X (pins++pinsAt fp s.heap) σ H s :=
 I.pins_of fun p hp=>(List.mem_append.mp hp).elim (fun z=>I.pin p (List.mem_append_right _ z)) fun z=>by
  obtain⟨hb,e⟩:=Y7e z
  obtain⟨f0,f1,f2,_⟩:=hf p.1 hb
  obtain⟨o,e',d⟩:=ho p.1 hb
  rw[e] at e';cases e'
  exact⟨e,f0,f1,f2,d⟩
theorem Inv.unpinned {pins pl:List (Addr × Obj)}{σ:St}{H:Hp}{s:Shared}(I:Inv X (pins++pl) σ H s):Inv X pins σ H s:=I.pins_of fun p hp=>I.pin p (List.mem_append_right _ (List.mem_append_left _ hp))
theorem Z1p {iter:Expr}{body:List Stmt}{wi:TI}{g:TG}{tb:TS}{pos:Pos}(hp:PassesOwn (model X.prog X.w) X.A X.env X.xe)(hc:X.calm=true)(hi:PI X tg iter wi)(hg:PG X tg g)(hb:PSs X body tb)
  (hs:∀ x,foldedSetIterable iter X.env x=pure x:=by intro _;rfl):PS X (.For tg iter body [] pos) (tFor wi g tb):=by
 intro pins s σ H D I h
 refine wpAny_For (thn (hi pins s σ H _ I h) fun v s1 h1=>thn h1 fun itv s2 h2=>?_) hs
 obtain⟨it,fp,tn,J,H2,e,I2,T,st2,f2,W,⟨m0,w0⟩,turn⟩:=h2
 subst e
 have stat:∀ {H':Hp},(∀ b∈fp,H' b=none)->∀ b∈fp,FpOk X pins H' b:=fun hn b hb=>⟨hn b hb,(f2 b hb).2⟩
 refine codeAny_forLoop_any (fun n s'=>∃ i σ' H',Inv X pins σ' H' s'/\tn i s'.heap/\(∀ b∈fp,H' b=none)/\W i n σ' H') ?_ m0 ⟨0,σ,H2,I2,st2,fun b hb=>(f2 b hb).1,w0⟩
 rintro n s3 ⟨i,σ3,H3,I3,st3,fr3,w3⟩
 rcases turn i n σ3 H3 w3 with ⟨stop,qn⟩ | ⟨go,N,hN,step⟩
 ·refine wpAny_passesOwn hp (thn (T.done X rfl rfl rfl hc i pins s3 σ3 H3 X.xe I3 (stat fr3) st3 stop) fun r s4 ⟨hr,I4⟩=>?_)
  subst hr
  exact wpAny_execs_nil ⟨σ3,H3,I4,qn⟩
 ·refine wpAny_passesOwn hp (thn (T.item X rfl rfl rfl hc i pins s3 σ3 H3 X.xe I3 (stat fr3) st3 go) fun r s4 ⟨u,hr,h4⟩=>?_)
  subst hr
  refine wpAny_passesOwn hp (thn h4 fun _ s5 ⟨x,H5,I5,r5,y5,st5,fr5⟩=>?_)
  have I5':=I5.pinned (stat fr5) (T.obj _ _ st5)
  refine wpAny_passesOwn hp (thn (hg _ s5 σ3 H5 x u _ I5' r5 (step x H5 y5)) fun _ s6 ⟨σ6,H6,I6,q6⟩=>?_)
  refine wpAny_passesOwn hp (thn (hb _ s6 σ6 H6 _ I6 q6) fun f s7 q7=>?_)
  have again:∀ {σ7:St}{H7:Hp},Inv X (pins++pinsAt fp s5.heap) σ7 H7 s7->N σ7 H7->∃ m,m<n/\∃ i σ' H',Inv X pins σ' H' s7/\tn i s7.heap/\(∀ b∈fp,H' b=none)/\W i m σ' H':=fun {σ7 H7} I7 n7=>by
   obtain⟨m',hm,w7⟩:=hN σ7 H7 n7
   refine⟨m',hm,i+1,σ7,H7,I7.unpinned,T.keep _ _ _ st5 fun b hb o e=>(I7.pin (b,o) (List.mem_append_right _ (List.mem_append_right _ (Z3a hb e)))).1,fun b hb=>?_,w7⟩
   obtain⟨o,e,d⟩:=T.obj _ _ st5 b hb
   exact(I7.pin (b,o) (List.mem_append_right _ (List.mem_append_right _ (Z3a hb e)))).2.1
  cases f with
  | next=>obtain⟨σ7,H7,I7,n7⟩:=q7;exact again I7 n7
  | cont=>obtain⟨σ7,H7,I7,n7⟩:=q7;exact again I7 n7
  | brk=>obtain⟨σ7,H7,I7,q7⟩:=q7;exact⟨σ7,H7,I7.unpinned,q7⟩
  | ret v=>obtain⟨x7,σ7,H7,I7,r7,q7⟩:=q7;exact⟨x7,σ7,H7,I7.unpinned,r7,q7⟩
end
theorem Z2o {K:PySem.W.Frag}{a:Addr}{xs:List V}{g:TG}{tb:TS}{D:Ends}{σ:St}{H:Hp}(Pv:Nat->St->Hp->Prop)(h0:Pv 0 σ H)(hl:∀ i σ H,i<=xs.length->Pv i σ H->SqL K H a xs)
  (hs:∀ i x σ H,xs[i]?=some x->Pv i σ H->g x σ H fun σ2 H2=>tb { D with nx:=Pv (i+1),ct:=Pv (i+1),bk:=D.nx } σ2 H2) (hd:∀ σ H,Pv xs.length σ H->D.nx σ H) :
  ∃ W:Nat->Nat->St->Hp->Prop,(∃ m,W 0 m σ H)/\∀ i m σ H,W i m σ H →
   ((Itl K a).stop i H/\D.nx σ H)∨((Itl K a).go i H/\∃ N:St->Hp->Prop,(∀ σ' H',N σ' H'->∃ m',m'<m/\W (i+1) m' σ' H')/\∀ x H',(Itl K a).yld i H x H'->g x σ H' fun σ2 H2=>tb { D with nx:=N,ct:=N,bk:=D.nx } σ2 H2):=by
 refine⟨fun i m σ H=>m=xs.length-i/\i<=xs.length/\Pv i σ H,⟨xs.length,by simp,Nat.zero_le _,h0⟩,?_⟩
 rintro i m σ H ⟨rfl,hi,p⟩
 have q:=hl i σ H hi p
 by_cases hlt:i<xs.length
 ·refine .inr ⟨⟨xs,xs[i],q,by simp[hlt]⟩,Pv (i+1),fun σ' H' p'=>⟨xs.length-(i+1),by omega,rfl,hlt,p'⟩,fun x H' y=>?_⟩
  obtain⟨e,y⟩:=y
  subst e
  exact hs i x σ _ (y xs q) p
 ·have e:i=xs.length:=by omega
  subst e
  exact .inl ⟨⟨xs,q,Nat.le_refl _⟩,hd σ H p⟩
theorem Z1i {lo:Int}{n:Nat}{g:TG}{tb:TS}{D:Ends}{σ:St}{H:Hp}(Pv:Nat->St->Hp->Prop)(h0:Pv 0 σ H)
  (hs:∀ i σ H,i<n->Pv i σ H->g (.int (lo+i)) σ H fun σ2 H2=>tb { D with nx:=Pv (i+1),ct:=Pv (i+1),bk:=D.nx } σ2 H2) (hd:∀ σ H,Pv n σ H->D.nx σ H) :
  ∃ W:Nat->Nat->St->Hp->Prop,(∃ m,W 0 m σ H)/\∀ i m σ H,W i m σ H →
   ((Itr lo n).stop i H/\D.nx σ H)∨((Itr lo n).go i H/\∃ N:St->Hp->Prop,(∀ σ' H',N σ' H'->∃ m',m'<m/\W (i+1) m' σ' H')/\∀ x H',(Itr lo n).yld i H x H'->g x σ H' fun σ2 H2=>tb { D with nx:=N,ct:=N,bk:=D.nx } σ2 H2):=by
 refine⟨fun i m σ H=>m=n-i/\i<=n/\Pv i σ H,⟨n,by simp,Nat.zero_le _,h0⟩,?_⟩
 rintro i m σ H ⟨rfl,hi,p⟩
 by_cases hlt:i<n
 ·refine .inr ⟨hlt,Pv (i+1),fun σ' H' p'=>⟨n-(i+1),by omega,rfl,hlt,p'⟩,fun x H' y=>?_⟩
  obtain⟨e,y⟩:=y
  subst e y
  exact hs i σ _ hlt p
 ·have e:i=n:=by omega
  subst e
  exact .inl ⟨Nat.le_refl _,hd σ H p⟩
abbrev R2:=V->V->Hp->VK->Prop
def OpR (X:Cx)(f:Value->Value->Sem Value)(r:R2):Prop :=
 ∀ (pins:List (Addr × Obj)) (s:Shared) (σ:St) (H:Hp) (x y:V) (v u:Value) (Q:VK),Inv X pins σ H s->RelV x v->RelV y u->r x y H Q →
  wpAny (model X.prog X.w) X.A (f v u) (EP X pins σ Q) X.xe s
def UnR (X:Cx)(f:Value->Sem Value)(r:V->Hp->VK->Prop):Prop :=
 ∀ (pins:List (Addr × Obj)) (s:Shared) (σ:St) (H:Hp) (x:V) (v:Value) (Q:VK),Inv X pins σ H s->RelV x v->r x H Q →
  wpAny (model X.prog X.w) X.A (f v) (EP X pins σ Q) X.xe s
def CallR (X:Cx)(f:Value)(r:List V->Hp->VK->Prop):Prop :=
 ∀ (pins:List (Addr × Obj)) (s:Shared) (σ:St) (H:Hp) (xs:List V) (us:List Value) (Q:VK),Inv X pins σ H s->Vals xs us->r xs H Q →
  wpAny (model X.prog X.w) X.A (call f us) (EP X pins σ Q) X.xe s
def TruR (X:Cx)(r:V->Hp->(Bool->Hp->Prop)->Prop):Prop :=
 ∀ (pins:List (Addr × Obj)) (s:Shared) (σ:St) (H:Hp) (x:V) (v:Value) (Q:Bool->Hp->Prop),Inv X pins σ H s->RelV x v->r x H Q →
  wpAny (model X.prog X.w) X.A (truthy v) (TP X pins σ Q) X.xe s
def tOp (r:R2)(ta tb:TE):TE:=fun σ H Q=>ta σ H fun x H1=>tb σ H1 fun y H2=>r x y H2 Q
def tUn (r:V->Hp->VK->Prop)(ta:TE):TE:=fun σ H Q=>ta σ H fun x H1=>r x H1 Q
def rI (C:Int->Int->Prop)(g:Int->Int->V):R2:=fun x y H Q=>∃ i j,x=.int i/\y=.int j/\C i j/\Q (g i j) H
def rI0 (g:Int->Int->V):R2:=fun x y H Q=>∃ i j,x=.int i/\y=.int j/\Q (g i j) H
def rU (g:Int->V):V->Hp->VK->Prop:=fun x H Q=>∃ i,x=.int i/\Q (g i) H
section
variable {X:Cx}{a b c:Expr}{ta tb tc:TE}{pos:Pos}
theorem binT (ha:PE X a ta)(hb:PE X b tb){pins:List (Addr × Obj)}{s:Shared}{σ:St}{H:Hp}{R:V->V->Hp->Prop}(I:Inv X pins σ H s)
  (h:ta σ H fun x H1=>tb σ H1 fun y H2=>R x y H2) {Q:Value->Shared->Prop}{f:Value->Value->Sem Value}
  (hf:∀ v u s2 x y H2,Inv X pins σ H2 s2->RelV x v->RelV y u->R x y H2->wpAny (model X.prog X.w) X.A (f v u) Q X.xe s2) :
  wpAny (model X.prog X.w) X.A (eval a X.env) (fun v s₁=>wpAny (model X.prog X.w) X.A (eval b X.env) (fun u s₂=>wpAny (model X.prog X.w) X.A (f v u) Q X.xe s₂) X.xe s₁) X.xe s:=by
 refine thn (ha pins s σ H _ I h) fun v s1 ⟨x,H1,I1,r1,q1⟩=>?_
 refine thn (hb pins s1 σ H1 _ I1 q1) fun u s2 ⟨y,H2,I2,r2,q2⟩=>?_
 exact hf v u s2 x y H2 I2 r1 r2 q2
theorem Z0h {op:Operator}{r:R2}(ho:OpR X (binaryOp op) r)(ha:PE X a ta)(hb:PE X b tb):PE X (.BinOp a op b pos) (tOp r ta tb):=by
 intro pins s σ H Q I h
 exact wpAny_BinOp (binT ha hb I h fun v u s2 x y H2 I2 rx ry q=>ho pins s2 σ H2 x y v u Q I2 rx ry q)
theorem Y4n {op:UnaryOp}{r:V->Hp->VK->Prop}(ho:UnR X (unaryOp op) r)(ha:PE X a ta):PE X (.UnaryOp op a pos) (tUn r ta):=by
 intro pins s σ H Q I h
 exact UnaryOp_ (thn (ha pins s σ H _ I h) fun v s1 ⟨x,H1,I1,r1,q1⟩=>ho pins s1 σ H1 x v Q I1 r1 q1)
theorem opI {f:Value->Value->Sem Value}{C:Int->Int->Prop}{g:Int->Int->Int}
  (rule:∀ (i j:Int) (t u:Tok) (s:Shared) (Q:Value->Shared->Prop) (E:Value->Shared->Prop),C i j->Q (.int (g i j) s.toks) { s with toks:=s.toks+1 }->wpAny (model X.prog X.w) X.A (f (.int i t) (.int j u)) Q E s) :
  OpR X f (rI C fun i j=>.int (g i j)):=by
 intro pins s σ H x y v u Q I rx ry h
 obtain⟨i,j,rfl,rfl,hc,q⟩:=h
 obtain⟨t,rfl⟩:=rx
 obtain⟨t',rfl⟩:=ry
 exact rule i j t t' s _ _ hc ⟨.int (g i j),H,I.tok _,⟨_,rfl⟩,q⟩
theorem opI0 {f:Value->Value->Sem Value}{g:Int->Int->Int}
  (rule:∀ (i j:Int) (t u:Tok) (s:Shared) (Q:Value->Shared->Prop) (E:Value->Shared->Prop),Q (.int (g i j) s.toks) { s with toks:=s.toks+1 }->wpAny (model X.prog X.w) X.A (f (.int i t) (.int j u)) Q E s) :
  OpR X f (rI0 fun i j=>.int (g i j)):=by
 intro pins s σ H x y v u Q I rx ry h
 obtain⟨i,j,rfl,rfl,q⟩:=h
 obtain⟨t,rfl⟩:=rx
 obtain⟨t',rfl⟩:=ry
 exact rule i j t t' s _ _ ⟨.int (g i j),H,I.tok _,⟨_,rfl⟩,q⟩
theorem opB0 {f:Value->Value->Sem Value}{g:Int->Int->Bool}
  (rule:∀ (i j:Int) (t u:Tok) (s:Shared) (Q:Value->Shared->Prop) (E:Value->Shared->Prop),Q (.bool (g i j)) s->wpAny (model X.prog X.w) X.A (f (.int i t) (.int j u)) Q E s) :
  OpR X f (rI0 fun i j=>.bl (g i j)):=by
 intro pins s σ H x y v u Q I rx ry h
 obtain⟨i,j,rfl,rfl,q⟩:=h
 obtain⟨t,rfl⟩:=rx
 obtain⟨t',rfl⟩:=ry
 exact rule i j t t' s _ _ ⟨.bl (g i j),H,I,rfl,q⟩
def CDiv (i j:Int):Prop:=0<j/\j<1073741824
def CPow (i j:Int):Prop:=0<=j/\j<=1000000/\i.natAbs<2^64
def CMul (i j:Int):Prop:=(-(2^64)<i/\i<2^64)∨(-(2^64)<j/\j<2^64)
theorem CMul.ok {i j:Int}(h:CMul i j):IntMulOk i j:=by
 rcases h with ⟨h1,h2⟩ | ⟨h1,h2⟩
 ·exact .of_left (intBits_le_64 h1 h2)
 ·exact .of_right (intBits_le_64 h1 h2)
theorem Y4j (k:Nat):(0:Int)<=2^k:=by
 rw[two_pow_cast]
 exact Int.natCast_nonneg _
theorem Z1c:OpR X (binaryOp .Add) (rI0 fun i j=>.int (i+j)):=opI0 fun _ _ _ _ _ _ _ q=>add_int q
theorem Z1z:OpR X (binaryOp .Sub) (rI0 fun i j=>.int (i-j)):=opI0 fun _ _ _ _ _ _ _ q=>sub_int q
theorem Z2y:OpR X (binaryOp .Mult) (rI CMul fun i j=>.int (i*j)):=opI fun _ _ _ _ _ _ _ hc q=>mul_int q hc.ok
theorem Z1e:OpR X (binaryOp .FloorDiv) (rI CDiv fun i j=>.int (i / j)):=opI fun i j _ _ _ _ _ hc q=>by
 have h1:(0:Int)<j:=hc.1
 have h2:j<1073741824:=hc.2
 exact floordiv_int (by omega) (by rw[Int.fdiv_eq_ediv_of_nonneg i (by omega)];exact q) (.inl (PyProof.noPylong_small (by omega)))
theorem Z0u:OpR X (binaryOp .Mod) (rI (fun _ j=>0<j) fun i j=>.int (i%j)):=opI fun i j _ _ _ _ _ hc q=>by
 have h1:(0:Int)<j:=hc
 exact mod_int' (by omega) (by rw[Int.fmod_eq_emod_of_nonneg i (by omega)];exact q)
theorem Z9u:OpR X (binaryOp .Pow) (rI CPow fun i j=>.int (i^j.toNat)):=opI fun _ _ _ _ _ _ _ hc q=>pow_int_small hc.1 hc.2.1 hc.2.2 q
theorem Z4h:OpR X (binaryOp .RShift) (rI (fun _ j=>0<=j) fun i j=>.int (i / 2^j.toNat)):=opI fun i j _ _ _ _ _ hc q =>
 rshift_int hc (by rw[Int.fdiv_eq_ediv_of_nonneg i (Y4j _)];exact q)
theorem Z1t:OpR X (binaryOp .BitAnd) (rI0 fun i j=>.int (Builtin.bitAnd i j)):=opI0 fun _ _ _ _ _ _ _ q=>and_int q
theorem Y1f:OpR X (binaryOp .BitOr) (rI0 fun i j=>.int (Builtin.bitOr i j)):=opI0 fun _ _ _ _ _ _ _ q=>or_int q
theorem Z3n:OpR X (binaryOp .BitXor) (rI0 fun i j=>.int (Builtin.bitXor i j)):=opI0 fun _ _ _ _ _ _ _ q=>xor_int q
theorem unI {f:Value->Sem Value}{g:Int->Int}
  (rule:∀ (i:Int) (t:Tok) (s:Shared) (Q:Value->Shared->Prop) (E:Value->Shared->Prop),Q (.int (g i) s.toks) { s with toks:=s.toks+1 }->wpAny (model X.prog X.w) X.A (f (.int i t)) Q E s) :
  UnR X f (rU fun i=>.int (g i)):=by
 intro pins s σ H x v Q I rx h
 obtain⟨i,rfl,q⟩:=h
 obtain⟨t,rfl⟩:=rx
 exact rule i t s _ _ ⟨.int (g i),H,I.tok _,⟨_,rfl⟩,q⟩
theorem Z7i:UnR X (unaryOp .USub) (rU fun i=>.int (-i)):=unI fun _ _ _ _ _ q=>neg_int q
end
def scal:V->V->Bool
 | .non,.non=>true | .non,.int _=>true | .int _,.non=>true | .non,.bl _=>true | .bl _,.non=>true | .non,.str _=>true | .str _,.non=>true
 | .int _,.int _=>true | .bl _,.bl _=>true | .str _,.str _=>true | .byt _,.byt _=>true
 | .int _,.str _=>true | .str _,.int _=>true | .bl _,.str _=>true | .str _,.bl _=>true
 | _,_=>false
def rEq:R2:=fun x y H Q=>scal x y=true/\Q (.bl (decide (x=y))) H
def rNe:R2:=fun x y H Q=>scal x y=true/\Q (.bl (!decide (x=y))) H
theorem Y8k {i j:Int}:decide (V.int i=V.int j)=(i == j):=by
 rw[Bool.eq_iff_iff]
 simp
theorem X2t {i j:Bool}:decide (V.bl i=V.bl j)=(i == j):=by
 rw[Bool.eq_iff_iff]
 simp
theorem Y8j {i j:Str}:decide (V.str i=V.str j)=(i == j):=by
 rw[Bool.eq_iff_iff]
 simp
theorem Y8l {i j:Array UInt8}:decide (V.byt i=V.byt j)=(i.toList == j.toList):=by
 rw[Bool.eq_iff_iff]
 cases i
 cases j
 simp
section
variable {X:Cx}{a b c:Expr}{ta tb tc:TE}{pos:Pos}
theorem Z1j {pins:List (Addr × Obj)}{σ:St}{H:Hp}{s:Shared}{Q:VK}{k k':Bool}(I:Inv X pins σ H s)(q:Q (.bl k) H)(e:k=k'):EP X pins σ Q (.bool k') s:=by
 subst e
 exact⟨.bl k,H,I,rfl,q⟩
theorem Z1u:OpR X (compareOp .Eq) rEq:=by
 intro pins s σ H x y v u Q I rx ry h
 obtain⟨hs,q⟩:=h
 cases x with
 | non =>
  cases rx
  cases y with
  | non=>cases ry;exact PySem.EqNone.eq_none_none (Z1j I q (by simp))
  | bl j=>cases ry;exact PySem.EqNone.eq_none_bool (Z1j I q (by simp))
  | int j=>obtain⟨t',rfl⟩:=ry;exact PySem.EqNone.eq_none_int (Z1j I q (by simp))
  | str j=>obtain⟨t',rfl⟩:=ry;exact PySem.EqNone.eq_none_str (Z1j I q (by simp))
  | _=>exact absurd (show false=true from hs) Bool.false_ne_true
 | bl i =>
  cases rx
  cases y with
  | non=>cases ry;exact PySem.EqNone.eq_bool_none (Z1j I q (by simp))
  | bl j=>cases ry;exact eq_bool (Z1j I q X2t)
  | str j=>obtain⟨t',rfl⟩:=ry;exact PySem.EqMixed.eq_bool_str (Z1j I q (by simp))
  | _=>exact absurd (show false=true from hs) Bool.false_ne_true
 | int i =>
  obtain⟨t,rfl⟩:=rx
  cases y with
  | non=>cases ry;exact PySem.EqNone.eq_int_none (Z1j I q (by simp))
  | int j=>obtain⟨t',rfl⟩:=ry;exact eq_int (Z1j I q Y8k)
  | str j=>obtain⟨t',rfl⟩:=ry;exact PySem.EqMixed.eq_int_str (Z1j I q (by simp))
  | _=>exact absurd (show false=true from hs) Bool.false_ne_true
 | str i =>
  obtain⟨t,rfl⟩:=rx
  cases y with
  | non=>cases ry;exact PySem.EqNone.eq_str_none (Z1j I q (by simp))
  | bl j=>cases ry;exact PySem.EqMixed.eq_str_bool (Z1j I q (by simp))
  | int j=>obtain⟨t',rfl⟩:=ry;exact PySem.EqMixed.eq_str_int (Z1j I q (by simp))
  | str j=>obtain⟨t',rfl⟩:=ry;exact eq_str (Z1j I q Y8j)
  | _=>exact absurd (show false=true from hs) Bool.false_ne_true
 | byt i =>
  obtain⟨t,rfl⟩:=rx
  cases y with
  | byt j=>obtain⟨t',rfl⟩:=ry;exact PySem.W.eq_bytes (Z1j I q Y8l)
  | _=>exact absurd (show false=true from hs) Bool.false_ne_true
 | _=>cases y<;>exact absurd (show false=true from hs) Bool.false_ne_true
theorem Z5d:OpR X (compareOp .NotEq) rNe:=by
 intro pins s σ H x y v u Q I rx ry h
 obtain⟨hs,q⟩:=h
 cases x with
 | non =>
  cases rx
  cases y with
  | non=>cases ry;exact PySem.EqNone.ne_none_none (Z1j I q (by simp))
  | bl j=>cases ry;exact PySem.EqNone.ne_none_bool (Z1j I q (by simp))
  | int j=>obtain⟨t',rfl⟩:=ry;exact PySem.EqNone.ne_none_int (Z1j I q (by simp))
  | str j=>obtain⟨t',rfl⟩:=ry;exact PySem.EqNone.ne_none_str (Z1j I q (by simp))
  | _=>exact absurd (show false=true from hs) Bool.false_ne_true
 | bl i =>
  cases rx
  cases y with
  | non=>cases ry;exact PySem.EqNone.ne_bool_none (Z1j I q (by simp))
  | bl j=>cases ry;exact ne_bool (Z1j I q (congrArg not X2t))
  | str j=>obtain⟨t',rfl⟩:=ry;exact PySem.EqMixed.ne_bool_str (Z1j I q (by simp))
  | _=>exact absurd (show false=true from hs) Bool.false_ne_true
 | int i =>
  obtain⟨t,rfl⟩:=rx
  cases y with
  | non=>cases ry;exact PySem.EqNone.ne_int_none (Z1j I q (by simp))
  | int j=>obtain⟨t',rfl⟩:=ry;exact ne_int (Z1j I q (congrArg not Y8k))
  | str j=>obtain⟨t',rfl⟩:=ry;exact PySem.EqMixed.ne_int_str (Z1j I q (by simp))
  | _=>exact absurd (show false=true from hs) Bool.false_ne_true
 | str i =>
  obtain⟨t,rfl⟩:=rx
  cases y with
  | non=>cases ry;exact PySem.EqNone.ne_str_none (Z1j I q (by simp))
  | bl j=>cases ry;exact PySem.EqMixed.ne_str_bool (Z1j I q (by simp))
  | int j=>obtain⟨t',rfl⟩:=ry;exact PySem.EqMixed.ne_str_int (Z1j I q (by simp))
  | str j=>obtain⟨t',rfl⟩:=ry;exact ne_str (Z1j I q (congrArg not Y8j))
  | _=>exact absurd (show false=true from hs) Bool.false_ne_true
 | byt i =>
  obtain⟨t,rfl⟩:=rx
  cases y with
  | byt j=>obtain⟨t',rfl⟩:=ry;exact PySem.W.ne_bytes (Z1j I q (congrArg not Y8l))
  | _=>exact absurd (show false=true from hs) Bool.false_ne_true
 | _=>cases y<;>exact absurd (show false=true from hs) Bool.false_ne_true
theorem Z6u:OpR X (compareOp .Lt) (rI0 fun i j=>.bl (decide (i<j))):=opB0 fun _ _ _ _ _ _ _ q=>lt_int q
theorem X3x:OpR X (compareOp .LtE) (rI0 fun i j=>.bl (decide (i<=j))):=opB0 fun _ _ _ _ _ _ _ q=>le_int q
theorem Z9w:OpR X (compareOp .Gt) (rI0 fun i j=>.bl (decide (j<i))):=opB0 fun _ _ _ _ _ _ _ q=>gt_int q
theorem Y4o:OpR X (compareOp .GtE) (rI0 fun i j=>.bl (decide (j<=i))):=opB0 fun _ _ _ _ _ _ _ q=>ge_int q
theorem X2g:OpR X (compareOp .Is) (fun x y H Q=>y=.non/\Q (.bl (decide (x=.non))) H):=by
 intro pins s σ H x y v u Q I rx ry h
 obtain⟨rfl,q⟩:=h
 cases ry
 refine is_none_gen (Z1j I q ?_)
 cases x<;>first
  | (cases rx;rfl)
  | (obtain⟨t,rfl⟩:=rx;rfl)
theorem nomark (b:Expr){op:CmpOp}(h:op≠.In:=by decide)(h2:op≠.NotIn:=by decide):behindInMarks op b=false:=by
 have e1:(op == CmpOp.In)=false:=by cases op<;>first | rfl | exact absurd rfl h
 have e2:(op == CmpOp.NotIn)=false:=by cases op<;>first | rfl | exact absurd rfl h2
 cases b<;>simp[behindInMarks,e1,e2]
theorem Z1n {op:CmpOp}{r:R2}(ho:OpR X (compareOp op) r)(ha:PE X a ta)(hb:PE X b tb)(hm:behindInMarks op b=false):PE X (.Compare a [op] [b] pos) (tOp r ta tb):=by
 intro pins s σ H Q I h
 exact wpAny_Compare1 (binT ha hb I h fun v u s2 x y H2 I2 rx ry q=>ho pins s2 σ H2 x y v u Q I2 rx ry q) hm
def tTest (t:TE):TT:=fun σ H Q=>t σ H fun x H'=>∃ k,x=.bl k/\Q k H'
theorem Z0o {op:CmpOp}{r:R2}(ho:OpR X (compareOp op) r)(ha:PE X a ta)(hb:PE X b tb)(hm:behindInMarks op b=false):PT X (.Compare a [op] [b] pos) (tTest (tOp r ta tb)):=by
 intro pins s σ H Q I h
 refine wpAny_isTrue_Compare1 (thn (ha pins s σ H _ I h) fun v s1 ⟨x,H1,I1,r1,q1⟩=>thn (hb pins s1 σ H1 _ I1 q1) fun u s2 ⟨y,H2,I2,r2,q2⟩ =>
  thn (ho pins s2 σ H2 x y v u _ I2 r1 r2 q2) fun c s3 ⟨z,H3,I3,r3,k,e,q3⟩=>?_) hm
 subst e
 cases r3
 exact wpAny_truthy_bool ⟨H3,I3,q3⟩
def TruV (K:PySem.W.Frag)(x:V)(H:Hp)(k:Bool):Prop :=
 match x with
 | .non=>k=false
 | .bl b=>k=b
 | .int i=>k=(i != 0)
 | .str y=>y.length<=sizeLine/\k=((y.length:Int) != 0)
 | .byt y=>y.size<=sizeLine/\k=((y.size:Int) != 0)
 | .ref p=>(∃ xs,SqL K H p xs/\k=!xs.isEmpty)∨(∃ xs,SqT K H p xs/\k=!xs.isEmpty)∨∃ kvs,H p=some (.dK kvs)/\k=!kvs.isEmpty
 | _=>False
theorem Y4y {κ:Type}{kvs:List (κ × V)}{vs:List (κ × Value)}(r:KV kvs vs):(!vs.isEmpty)=!kvs.isEmpty:=by
 cases r<;>rfl
theorem Z7t {xs:List V}{its:List Value}(r:Vals xs its):(!its.toArray.isEmpty)=!xs.isEmpty:=by
 cases r<;>simp
theorem line63:(sizeLine:Nat)<2^63:=by rw[sizeLine_eq];decide
theorem X6m:TruR X (fun x H Q=>∃ k,TruV X.K x H k/\Q k H):=by
 intro pins s σ H x v Q I rx h
 obtain⟨k,e,q⟩:=h
 have hl:=line63
 have hs:sizeLine=16777216:=sizeLine_eq
 cases x with
 | non =>
  cases rx
  have e':k=false:=e
  subst e'
  exact truthy_none ⟨H,I,q⟩
 | bl b =>
  cases rx
  have e':k=b:=e
  subst e'
  exact wpAny_truthy_bool ⟨H,I,q⟩
 | int i =>
  obtain⟨t,rfl⟩:=rx
  have e':k=(i != 0):=e
  subst e'
  exact PySem.P.truthy_int ⟨H,I,q⟩
 | str y =>
  obtain⟨t,rfl⟩:=rx
  obtain⟨hy,e'⟩:y.length<=sizeLine/\k=((y.length:Int) != 0):=e
  subst e'
  exact PySem.P.truthy_str (by omega) ⟨H,I.tok _,q⟩
 | byt y =>
  obtain⟨t,rfl⟩:=rx
  obtain⟨hy,e'⟩:y.size<=sizeLine/\k=((y.size:Int) != 0):=e
  subst e'
  exact PySem.W.truthy_bytes (by omega) ⟨H,I.tok _,q⟩
 | ref p =>
  cases rx
  have e':(∃ xs,SqL X.K H p xs/\k=!xs.isEmpty)∨(∃ xs,SqT X.K H p xs/\k=!xs.isEmpty)∨∃ kvs,H p=some (.dK kvs)/\k=!kvs.isEmpty:=e
  rcases e' with ⟨xs,hx,e'⟩ | ⟨xs,hx,e'⟩ | ⟨kvs,hx,e'⟩
  ·subst e'
   obtain⟨its,r,pl,hz⟩:=I.list hx
   have hlen:=r.length
   exact wpAny_truthy_list pl.isList (by simp only[List.size_toArray];omega) ⟨H,I.tok _,by rw[Z7t r];exact q⟩
  ·subst e'
   obtain⟨its,r,pl,hz⟩:=I.tuple hx
   have hlen:=r.length
   exact truthy_tuple pl (by simp only[List.size_toArray];omega) ⟨H,I.tok _,by rw[Z7t r];exact q⟩
  ·subst e'
   obtain⟨hz,hS,vs,r,m⟩:kvs.length<=sizeLine/\(p == sysModules)=false/\∃ vs,KV kvs vs/\s.heap.DictOf (Z1v X.prog X.w) p vs:=I.hok p _ hx
   have hlen:kvs.length=vs.length:=Paired.length r
   exact wpAny_truthy_dict hS m (by omega) ⟨H,I.tok _,by rw[Y4y r];exact q⟩
 | _=>exact(show False from e).elim
theorem vals1 {x:V}{us:List Value}(r:Vals [x] us):∃ u,us=[u]/\RelV x u:=by
 cases r with
 | cons r1 r2=>cases r2;exact⟨_,rfl,r1⟩
theorem vals2 {x y:V}{us:List Value}(r:Vals [x,y] us):∃ u w',us=[u,w']/\RelV x u/\RelV y w':=by
 cases r with
 | cons r1 r2 =>
  cases r2 with
  | cons r3 r4=>cases r4;exact⟨_,_,rfl,r1,r3⟩
theorem Y8v (hc:X.calm=true):CallR X (.builtin "max") (fun xs H Q=>∃ i j,xs=[.int i,.int j]/\Q (.int (if j>i then j else i)) H):=by
 intro pins s σ H xs us Q I r h
 obtain⟨i,j,rfl,q⟩:=h
 obtain⟨u,w',rfl,⟨t,rfl⟩,⟨t',rfl⟩⟩:=vals2 r
 refine max_two_ints (I.ok.hd hc) fun h' tk k=>⟨_,H,I.kept k,?_,q⟩
 by_cases hj:j>i
 ·rw[if_pos hj,if_pos hj];exact⟨_,rfl⟩
 ·rw[if_neg hj,if_neg hj];exact⟨_,rfl⟩
theorem Y8t (hc:X.calm=true):CallR X (.builtin "min") (fun xs H Q=>∃ i j,xs=[.int i,.int j]/\Q (.int (if j<i then j else i)) H):=by
 intro pins s σ H xs us Q I r h
 obtain⟨i,j,rfl,q⟩:=h
 obtain⟨u,w',rfl,⟨t,rfl⟩,⟨t',rfl⟩⟩:=vals2 r
 refine min_two_ints (I.ok.hd hc) fun h' tk k=>⟨_,H,I.kept k,?_,q⟩
 by_cases hj:j<i
 ·rw[if_pos hj,if_pos hj];exact⟨_,rfl⟩
 ·rw[if_neg hj,if_neg hj];exact⟨_,rfl⟩
end
structure ObjM (h:Heap) (x dx C:Addr) (mA:Str->Option Value):Prop where
 obj:h.get? x=some (PySem.W.instObj C dx)
 ns:h.Ns1 dx mA
 ne:dx≠x
theorem Y7l {h:Heap}{dx:Addr}{mA:Str->Option Value}(n:h.Ns1 dx mA):∃ od,h.get? dx=some od/\∀ name,PySem.W.lookIn name od=some (mA name):=by
 obtain⟨o,es,ep,ho,hd,hk,_,hm⟩:=n
 refine⟨o,ho,fun name=>?_⟩
 have e:=hm name
 unfold nsFind findBy at e
 rw[<-Array.find?_toList] at e
 unfold PySem.W.lookIn
 rw[hd]
 dsimp only
 split
 ·rename_i y q
  rw[q] at e
  exact congrArg some e
 ·rename_i q
  rw[q] at e
  have a:es.toList.any (·.refKey)=false:=by
   rw[List.any_eq_false]
   intro y hy
   obtain⟨z,t,hkey⟩:=hk y (Array.mem_toList_iff.mp hy)
   simp[DictEntry.refKey,hkey]
  have a':¬ es.toList.any (·.refKey)=true:=by rw[a];exact Bool.false_ne_true
  rw[if_neg a']
  exact congrArg some e
theorem ObjM.look {h:Heap}{x dx C:Addr}{mA:Str->Option Value}(I:ObjM h x dx C mA):∃ od,PySem.W.InstAt h x (PySem.W.instObj C dx) C (some od)/\∀ name,PySem.W.lookIn name od=some (mA name) :=
 let ⟨od,ho,hl⟩:=Y7l I.ns
 ⟨od,⟨I.obj,rfl,rfl,ho⟩,hl⟩
section
variable {prog:Program}{w:World}{A:Around}{E:Value->Shared->Prop}{s:Shared}{K:PySem.W.Frag}{x dx C f:Addr}{mA:Str->Option Value}{name:Str}{v:Value}
end
theorem RelO.some_of {v:V}{o:Option Value}(r:RelO (some v) o):∃ u,o=some u/\RelV v u:=by
 cases o with
 | none=>exact(show False from r).elim
 | some u=>exact⟨u,rfl,r⟩
section
variable {P:Program}{w:World}{H H':Hp}{h h':Heap}{a C dx:Addr}{fs fs':List (Str × V)}
theorem X5h (hok:HOk P w H h)(e:H a=some (.ins C dx fs)):∃ mA,ObjM h a dx C mA/\(∀ f,RelO (fs.lookup f) (mA f))/\PySem.Within mA (fs.map (·.1))/\fs.length<=1000/\H dx=some (.own a):=by
 obtain⟨d,z,ne,ob,mA,n,r,q⟩:=(show ObjOk P w H h a (.ins C dx fs) from hok a _ e)
 exact⟨mA,⟨ob,n,ne⟩,r,q,z,d⟩
end
structure Cls (K:PySem.W.Frag) (C:Addr):Prop where
 pg:PySem.W.plainGet K C Str.empty=true
 hd:PySem.W.hasDictIn K C=true
 po:PySem.W.plainOver K C=true
 sa:PySem.W.findIn K (.ref C) "__setattr__"=some (some (.builtin "object.__setattr__"))
theorem Cls.get {K:PySem.W.Frag}{C:Addr}(c:Cls K C)(f:Str):PySem.W.plainGet K C f=true:=c.pg
section
variable {X:Cx}{pins:List (Addr × Obj)}{σ:St}{H:Hp}{s:Shared}{a C dx:Addr}{fs:List (Str × V)}{f:Str}{v:V}{A:Around}{E:Value->Shared->Prop}
end
section
variable {X:Cx}{o e value:Expr}{f:Str}{pos pos' tpos:Pos}{ta tv:TE}
end
section
variable {X:Cx}{pins:List (Addr × Obj)}{σ:St}{H:Hp}{s:Shared}{A:Around}{E:Value->Shared->Prop}{Q:Value->Shared->Prop}{c:Value}{b:Bool}
inductive TyOf (K:PySem.W.Frag) (H:Hp):V->Value->Prop where
 | non:TyOf K H .non (.type "NoneType")
 | bl (x:Bool):TyOf K H (.bl x) (.type "bool")
 | int (i:Int):TyOf K H (.int i) (.type "int")
 | str (x:Str):TyOf K H (.str x) (.type "str")
 | flt (x:UInt64):TyOf K H (.flt x) (.type "float")
 | lst {a:Addr}{xs:List V} (e:H a=some (.lst xs)):TyOf K H (.ref a) (.type "list")
 | frz {a:Addr}{o:Obj}{xs:List V} (e:H a=some (.frz o (.lst xs))):TyOf K H (.ref a) (.type "list")
 | tup {a:Addr}{xs:List V} (e:H a=some (.tup xs)):TyOf K H (.ref a) (.type "tuple")
 | dK {a:Addr}{kvs:List (Key × V)} (e:H a=some (.dK kvs)):TyOf K H (.ref a) (.type "dict")
 | dT {a:Addr}{kvs:List (List Key × V)} (e:H a=some (.dT kvs)):TyOf K H (.ref a) (.type "dict")
 | ins {a C dx:Addr}{fs:List (Str × V)} (e:H a=some (.ins C dx fs)) (cl:Cls K C) (ha:PySem.W.findIn K (.ref C) "__class__"=some (some (.builtin "object.__class__")))
   (hn:PySem.W.specialIn K (.builtin "object.__class__") "__get__"=some (some (.builtin "getset_descriptor.__get__"))) (htk:PySem.W.takesIn K (.builtin "object.__class__")=some true)
   (hm:PySem.W.mroIn K C (.type "object")=some true):TyOf K H (.ref a) (.ref C)
theorem Y7x {x:V}{u t:Value}(I:Inv X pins σ H s)(rx:RelV x u)(ty:TyOf X.K H x t)(e:PySem.W.kitOne X.K t c=some b)(h:∀ tk,Q (.bool b) { s with toks:=tk }) :
  wpAny (model X.prog X.w) A (call (.builtin "isinstance") [u,c]) Q E s:=by
 cases ty with
 | non=>cases (show u=Value.none from rx);exact PySem.W.kia_one PySem.W.kitx_none I.kIn True.intro e (fun z=>nomatch z) h
 | bl y=>cases (show u=Value.bool y from rx);exact PySem.W.kia_one PySem.W.kitx_bool I.kIn True.intro e (fun z=>nomatch z) h
 | int i=>obtain⟨t,q⟩:=(show ∃ t,u=Value.int i t from rx);cases q;exact PySem.W.kia_one PySem.W.kitx_int I.kIn True.intro e (fun z=>nomatch z) h
 | str y=>obtain⟨t,q⟩:=(show ∃ t,u=Value.str y t from rx);cases q;exact PySem.W.kia_one PySem.W.kitx_str I.kIn True.intro e (fun z=>nomatch z) h
 | flt y=>obtain⟨t,q⟩:=(show ∃ t,u=Value.float y t from rx);cases q;exact PySem.W.kia_one PySem.W.kitx_float I.kIn True.intro e (fun z=>nomatch z) h
 | @lst a xs ea =>
  cases (show u=Value.ref a from rx)
  obtain⟨_,_,n,_,h1⟩:=(show ObjOk X.prog X.w H s.heap a (.lst xs) from I.hok a _ ea)
  exact PySem.W.kia_one PySem.W.kitx_list I.kIn ⟨_,h1,rfl⟩ e (fun z=>nomatch z) h
 | @frz a ob xs ea =>
  cases (show u=Value.ref a from rx)
  obtain⟨_,_,_,n,_,h1⟩:=(show ObjOk X.prog X.w H s.heap a (.frz ob (.lst xs)) from I.hok a _ ea)
  exact PySem.W.kia_one PySem.W.kitx_list I.kIn ⟨_,h1,rfl⟩ e (fun z=>nomatch z) h
 | @tup a xs ea =>
  cases (show u=Value.ref a from rx)
  obtain⟨_,_,_,p⟩:=(show ObjOk X.prog X.w H s.heap a (.tup xs) from I.hok a _ ea)
  obtain⟨o,h1,h2,_⟩:=p
  exact PySem.W.kia_one PySem.W.kitx_tuple I.kIn ⟨o,h1,h2⟩ e (fun z=>nomatch z) h
 | @dK a kvs ea =>
  cases (show u=Value.ref a from rx)
  obtain⟨_,_,vs,_,p⟩:=(show ObjOk X.prog X.w H s.heap a (.dK kvs) from I.hok a _ ea)
  obtain⟨o,es,ep,h1,h2,_⟩:=p
  exact PySem.W.kia_one PySem.W.kitx_dict I.kIn ⟨o,h1,h2.1⟩ e (fun z=>nomatch z) h
 | @dT a kvs ea =>
  cases (show u=Value.ref a from rx)
  obtain⟨_,_,xs,_,o,es,ep,h1,h2,_⟩:=(show ObjOk X.prog X.w H s.heap a (.dT kvs) from I.hok a _ ea)
  exact PySem.W.kia_one PySem.W.kitx_dict I.kIn ⟨o,h1,h2.1⟩ e (fun z=>nomatch z) h
 | @ins a C dx fs ea cl ha hn htk hm =>
  cases (show u=Value.ref a from rx)
  obtain⟨mA,O,_⟩:=X5h I.hok ea
  obtain⟨od,J,_⟩:=O.look
  exact PySem.W.kia_one (PySem.W.kitx_own (cl.get _) cl.hd ha hn htk hm) I.kIn J e (fun z=>nomatch z) h
end
structure Room (k:Nat) (A:Around):Prop where
 hd:A.handled=none
 dp:A.depth+3*k+5<recursionLimit
 un:A.units+16*k+200<cLine
theorem Room.mono {j k:Nat}{A:Around}(r:Room k A)(h:j<=k):Room j A:=⟨r.hd,by have:=r.dp;omega,by have:=r.un;omega⟩
theorem Room.deeper {k:Nat}{A:Around}(r:Room (k+1) A)(env:Env):Room k (A.deeper env) :=
 ⟨r.hd,by have:=r.dp;show A.depth+1+3*k+5<_;omega,by have:=r.un;show A.units+3+16*k+200<_;omega⟩
theorem Room.in1 {k:Nat}{A:Around}(r:Room (k+1) A):Room k A.in1 :=
 ⟨r.hd,by have:=r.dp;show A.depth+3*k+5<_;omega,by have:=r.un;show A.units+1+16*k+200<_;omega⟩
theorem Room.depth {k:Nat}{A:Around}(r:Room k A):A.depth<recursionLimit:=by have:=r.dp;omega
theorem Room.units {k:Nat}{A:Around}(r:Room k A):A.units+64<cLine:=by have:=r.un;omega
def tNil:TA:=fun _ H Q=>Q [] H
def tCons (ta:TE)(tr:TA):TA:=fun σ H Q=>ta σ H fun x H1=>tr σ H1 fun xs H2=>Q (x::xs) H2
section
variable {X:Cx}{e:Expr}{es:List Expr}{te:TE}{t:TA}{pos:Pos}
theorem Z0d:PA X [] tNil:=fun _ _ _ _ H Q I h=>Calls.spliced_nil ⟨[],H,I,.nil,h⟩
theorem Z0a (ha:PE X e te)(hr:PA X es t)(hs:starEach (e::es) X.env=(false,eval e X.env)::starEach es X.env:=by rfl):PA X (e::es) (tCons te t):=by
 intro pos pins s σ H Q I h
 rw[hs]
 show wpAny _ _ (spliced ((false,eval e X.env)::backTo pos (starEach es X.env))) _ _ s
 refine Calls.spliced_cons (thn (ha pins s σ H _ I h) fun u s1 ⟨x,H1,I1,r1,q1⟩=>?_)
 exact thn (hr pos pins s1 σ H1 _ I1 q1) fun us s2 ⟨xs,H2,I2,r2,q2⟩=>⟨x::xs,H2,I2,.cons r1 r2,q2⟩
def tTup (t:TA):TE:=fun σ H Q=>t σ H fun xs H1=>xs.length<=sizeLine/\∀ p,H1 p=none->Q (.ref p) (upd H1 p (.tup xs))
def tLst (t:TA):TE:=fun σ H Q=>t σ H fun xs H1=>xs.length<=sizeLine/\∀ p,H1 p=none->Q (.ref p) (upd H1 p (.lst xs))
theorem Z0z {x1}(h:PA X es t):PE X (.Tuple es x1 pos) (tTup t):=by
 intro pins s σ H Q I hq
 refine wpAny_Tuple_spliced (thn (h pos pins s σ H _ I hq) fun us s1 ⟨xs,H1,I1,r,z,q⟩=>⟨by rw[<-r.length];exact z,?_⟩)
 have hf:H1 s1.heap.objs.size=none:=I1.hok.fresh (Nat.le_refl _)
 refine⟨.ref s1.heap.objs.size,upd H1 s1.heap.objs.size (.tup xs),I1.laid (t':=s1.toks) (fun b u e=>Heap.get?_push_of_some _ e) (Nat.le_refl _) ?_,rfl,q _ hf⟩
 exact⟨z,us,r,⟨_,Heap.get?_push_size _ rfl,rfl,_,rfl⟩⟩
theorem Z3f (h:PA X es t):PE X (.List es pos) (tLst t):=by
 intro pins s σ H Q I hq
 refine wpAny_List_spliced (thn (h pos pins s σ H _ I hq) fun us s1 ⟨xs,H1,I1,r,z,q⟩=>⟨by rw[<-r.length];exact z,?_⟩)
 have hf:H1 s1.heap.objs.size=none:=I1.hok.fresh (Nat.le_refl _)
 refine⟨.ref s1.heap.objs.size,upd H1 s1.heap.objs.size (.lst xs),I1.laid (t':=s1.toks) (fun b u e=>Heap.get?_push_of_some _ e) (Nat.le_refl _) ?_,rfl,q _ hf⟩
 exact⟨z,us,0,r,Heap.get?_push_size _ rfl⟩
end
abbrev Sp:=List V->Hp->VK->XK->Prop
abbrev CXT:=List Env->Hp->Shared->XK->Value->Shared->Prop
structure Env0 (P:Program) (w:World) (K:PySem.W.Frag) (mg:Str->Option Value) (base:Heap) (A:Around) (outer:List Env) (s:Shared) (H:Hp):Prop where
 frames:A.frames=some outer
 mod:Mod K mg base
 bs:∀ b o,base.get? b=some o->s.heap.get? b=some o/\H b=none
 bsz:base.objs.size<=s.heap.objs.size
 funs:s.heap.FunFrames base outer
 frf:∀ b∈frs outer,H b=none
 hok:HOk P w H s.heap
 bare:AllBare s.gens
def CE (outer:List Env)(P:Program)(w:World)(H:Hp)(s:Shared)(Q:VK)(u:Value)(s':Shared):Prop :=
 ∃ v H',s'.os=s.os/\AllBare s'.gens/\Un (frs outer) [] H H' s.heap s'.heap/\HOk P w H' s'.heap/\RelV v u/\Q v H'
def CR (CX:CXT)(outer:List Env)(P:Program)(w:World)(H:Hp)(s:Shared)(Q:VK)(E:XK)(r:Result)(s':Shared):Prop :=
 match r with
 | .ok (.ret u)=>CE outer P w H s Q u s'
 | .ok _=>False
 | .error e=>CX outer H s E e s'
structure FnOk (P:Program) (w:World) (K:PySem.W.Frag) (mg:Str->Option Value) (base:Heap) (CX:CXT) (k:Nat) (f:Addr) (fd:FuncData) (ps:List Str) (sp:Sp):Prop where
 len:∀ vs H Q E,sp vs H Q E->vs.length=ps.length
 run:∀ (A:Around) (outer:List Env) (s:Shared) (H:Hp) (args:Args) (us:List Value) (vs:List V) (Q:VK) (E:XK),Room k A->Env0 P w K mg base A outer s H->BindsTo s fd args (ps.zip us)->Vals vs us->sp vs H Q E →
  codeAny (model P w) A (.call (.ref f) args) (CR CX outer P w H s Q E) s
theorem FnOk.mono {P:Program}{w:World}{K:PySem.W.Frag}{mg:Str->Option Value}{base:Heap}{CX:CXT}{j k:Nat}{f:Addr}{fd:FuncData}{ps:List Str}{sp:Sp}(F:FnOk P w K mg base CX j f fd ps sp)(h:j<=k) :
  FnOk P w K mg base CX k f fd ps sp:=⟨F.len,fun A outer s H args us vs Q E hr=>F.run A outer s H args us vs Q E (hr.mono h)⟩
section
variable {X:Cx}{pins:List (Addr × Obj)}{σ:St}{H:Hp}{s s':Shared}
theorem Inv.env0 (I:Inv X pins σ H s):Env0 X.prog X.w X.K X.mg X.base X.A X.stack s H :=
 ⟨I.ok.frames,I.ok.mod,I.bs,Nat.le_trans I.ok.bsz I.sz,I.stack,I.stkFree,I.hok,I.bare⟩
theorem Inv.after {Q:VK}{u:Value}(I:Inv X pins σ H s)(h:CE X.stack X.prog X.w H s Q u s'):EP X pins σ Q u s':=by
 obtain⟨v,H',os,bare,un,hok,r,q⟩:=h
 obtain⟨hh,g,d,t,os'⟩:=s'
 obtain rfl:os'=s.os:=os
 exact⟨v,H',I.call (h':=hh) (g':=g) (d':=d) (t':=t) (ch:=[]) un hok bare (fun b z=>absurd z (by simp)),r,q⟩
end
def tCall (sp:Sp)(dvs:List V)(E:XK)(t:TA):TE:=fun σ H Q=>t σ H fun vs H1=>sp (vs++dvs) H1 Q E
def Binds (K:PySem.W.Frag)(fd:FuncData)(ps:List Str)(ds:List Value):Prop :=
 ∀ (s:Shared) (us:List Value),K.In s.heap->(us++ds).length=ps.length->BindsTo s fd ⟨us,[]⟩ (ps.zip (us++ds))
theorem Binds.all {K:PySem.W.Frag}{fd:FuncData}{ps:List Str}(h:∀ us:List Value,us.length=ps.length->bindArgs fd ⟨us,[]⟩=pure (ps.zip us)):Binds K fd ps []:=fun s us _ hl=>by
 rw[List.append_nil] at hl ⊢
 exact .of_eq (h us hl)
def Passes (CX:CXT)(X:Cx)(E:XK):Prop:=∀ (pins:List (Addr × Obj)) (σ:St) (H:Hp) (s:Shared) (e:Value) (s':Shared),Inv X pins σ H s->CX X.stack H s E e s'->X.xe e s'
section
variable {X:Cx}{CX:CXT}{k:Nat}{f C:Addr}{fd:FuncData}{ps:List Str}{sp:Sp}{dvs:List V}{ds:List Value}{E:XK}{x m:Str}{p pos apos:Pos}{e o:Expr}{es:List Expr}{ta:TE}{t:TA}
theorem X2d {pins:List (Addr × Obj)}{σ:St}{H:Hp}{s:Shared}{Q:VK}{us:List Value}{vs:List V}(F:FnOk X.prog X.w X.K X.mg X.base CX k f fd ps sp)(hr:Room k X.A)(hb:Binds X.K fd ps ds)(hd:Vals dvs ds)(hx:Passes CX X E)
  (I:Inv X pins σ H s) (r:Vals vs us) (h:sp (vs++dvs) H Q E):wpAny (model X.prog X.w) X.A (call (.ref f) us) (EP X pins σ Q) X.xe s:=by
 have r2:Vals (vs++dvs) (us++ds):=r.append hd
 have hl:(us++ds).length=ps.length:=by rw[<-r2.length];exact F.len _ _ _ _ h
 refine wpAny_call (codeAny_mono (F.run X.A X.stack s H ⟨us,[]⟩ (us++ds) (vs++dvs) Q E hr I.env0 (hb s us I.kIn hl) r2 h) fun r s' hq=>?_)
 cases r with
 | error e=>exact hx pins σ H s e s' I hq
 | ok fl =>
  cases fl with
  | ret u=>exact I.after hq
  | next=>exact False.elim hq
  | brk=>exact False.elim hq
  | cont=>exact False.elim hq
theorem X3s (F:FnOk X.prog X.w X.K X.mg X.base CX k f fd ps sp)(hr:Room k X.A)(hg:Gl X x)(hm:X.mg x=some (.ref f))(hk:PySem.W.keepIn X.K (.ref f)=true)(hb:Binds X.K fd ps ds)(hd:Vals dvs ds)(hx:Passes CX X E)
  (ha:PA X (e::es) t) (hdb:(x == ("__debug__":Str))=false:=by decide) (he:starEach (e::es) X.env=(false,eval e X.env)::starEach es X.env:=by rfl) (hpl:(backTo pos (starEach es X.env)).any (·.1)=false:=by rfl) :
  PE X (.Call (.Name x p) (e::es) [] pos) (tCall sp dvs E t):=by
 intro pins s σ H Q I h
 refine wpAny_Call_Name_kw (Y7p I hg hm ?_ hdb)
 refine PySem.W.callWith_K (h₀:=X.base) I.ok.mod.kin hk (thn (ha pos pins s σ H _ I h) fun us s1 ⟨vs,H1,I1,r,q⟩=>⟨I1.kIn,?_⟩) he hpl
 exact X2d F hr hb hd hx I1 r q
end
def PK (X:Cx)(kws:List Keyword)(t:TA):Prop :=
 ∀ (pos:Pos) (pins:List (Addr × Obj)) (s:Shared) (σ:St) (H:Hp) (Q:List V->Hp->Prop),Inv X pins σ H s->t σ H Q->wpAny (model X.prog X.w) X.A (evalAll ((backToKw pos (keywordEach kws X.env)).map (·.2))) (AP X pins σ Q) X.xe s
section
variable {X:Cx}{CX:CXT}{k:Nat}{f C:Addr}{fd:FuncData}{ps ks:List Str}{sp:Sp}{E:XK}{x m:Str}{p pos apos kpos:Pos}{e o:Expr}{es:List Expr}{kws:List Keyword}{te ta:TE}{t tk:TA}{nm:Option Str}
theorem X6s:PK X [] tNil:=fun _ _ _ _ H Q I h=>wpAny_evalAll_nil ⟨[],H,I,.nil,h⟩
theorem X3p (ha:PE X e te)(hr:PK X kws t):PK X (⟨nm,e,kpos⟩::kws) (tCons te t):=by
 intro pos pins s σ H Q I h
 show wpAny _ _ (evalAll ((do let v ← eval e X.env;standAt pos;pure v)::(backToKw pos (keywordEach kws X.env)).map (·.2))) _ _ s
 refine wpAny_evalAll_cons (wpAny_bind (thn (ha pins s σ H _ I h) fun u s1 ⟨x,H1,I1,r1,q1⟩=>wpAny_bind (wpAny_standAt (wpAny_pure ?_))))
 exact thn (hr pos pins s1 σ H1 _ I1 q1) fun us s2 ⟨xs,H2,I2,r2,q2⟩=>⟨x::xs,H2,I2,.cons r1 r2,q2⟩
variable {g:List Value->List Value->List Value}{gV:List V->List V->List V}
end
structure FnScope (N P:List Str) (sc:Scope):Prop where
 kind:sc.kind=.function
 co:sc.isCoroutine=false
 gen:sc.isGenerator=false
 nd:N.Nodup
 pre:N.take P.length=P
 par:∀ x∈P,sc.names.lookup x=some .local∨sc.names.lookup x=some .cell
 nofree:∀ y∈sc.names,y.2≠.free
theorem Y0k {kindOf:Str->Option NameKind}{x:Str}:∀ {binds:List (Str × Value)}{m:Str->Option Value},(∀ v,(x,v) ∉ binds)->bindL kindOf binds m x=m x
 | [],_,_=>rfl
 | (n,v)::r,m,h=>by
  unfold bindL
  rw[Y0k fun w hw=>h w (List.mem_cons_of_mem _ hw)]
  split
  ·have:x≠n:=by rintro rfl;exact h v List.mem_cons_self
   simp[this]
  ·rfl
theorem Y0m {kindOf:Str->Option NameKind}{x:Str}:∀ {binds:List (Str × Value)}{m:Str->Option Value},(∀ v,(x,v) ∉ binds)->bindC kindOf binds m x=m x
 | [],_,_=>rfl
 | (n,v)::r,m,h=>by
  unfold bindC
  rw[Y0m fun w hw=>h w (List.mem_cons_of_mem _ hw)]
  split
  ·rfl
  ·have:x≠n:=by rintro rfl;exact h v List.mem_cons_self
   simp[this]
theorem Y0l {kindOf:Str->Option NameKind}{x:Str}{v:Value}:∀ {P:List Str}{vs:List Value}{i:Nat}{m:Str->Option Value},P.Nodup->P[i]?=some x->vs[i]?=some v->kindOf x=some .local →
  bindL kindOf (P.zip vs) m x=some v
 | [],_,_,_,_,h,_,_=>by simp at h
 | _::_,[],_,_,_,_,h,_=>by simp at h
 | p::P,w::vs,0,m,nd,h1,h2,hk=>by
  simp at h1 h2;subst h1;subst h2
  show bindL kindOf ((p,w)::P.zip vs) m p=_
  unfold bindL
  rw[Y0k fun v hv=>(List.nodup_cons.mp nd).1 (List.of_mem_zip hv).1,if_pos hk]
  simp
 | p::P,w::vs,i+1,m,nd,h1,h2,hk=>by
  show bindL kindOf ((p,w)::P.zip vs) m x=_
  unfold bindL
  exact Y0l (i:=i) (List.nodup_cons.mp nd).2 (by simpa using h1) (by simpa using h2) hk
theorem Y0n {kindOf:Str->Option NameKind}{x:Str}{v:Value}:∀ {P:List Str}{vs:List Value}{i:Nat}{m:Str->Option Value},P.Nodup->P[i]?=some x->vs[i]?=some v->kindOf x≠some .local →
  bindC kindOf (P.zip vs) m x=some v
 | [],_,_,_,_,h,_,_=>by simp at h
 | _::_,[],_,_,_,_,h,_=>by simp at h
 | p::P,w::vs,0,m,nd,h1,h2,hk=>by
  simp at h1 h2;subst h1;subst h2
  show bindC kindOf ((p,w)::P.zip vs) m p=_
  unfold bindC
  rw[Y0m fun v hv=>(List.nodup_cons.mp nd).1 (List.of_mem_zip hv).1,if_neg hk]
  simp
 | p::P,w::vs,i+1,m,nd,h1,h2,hk=>by
  show bindC kindOf ((p,w)::P.zip vs) m x=_
  unfold bindC
  exact Y0n (i:=i) (List.nodup_cons.mp nd).2 (by simpa using h1) (by simpa using h2) hk
def start (N:List Str)(vs:List V):St:=vs.map some++List.replicate (N.length-vs.length) none
def cxOf (CX:CXT)(P:Program)(w:World)(K:PySem.W.Frag)(mg:Str->Option Value)(base:Heap)(N:List Str)(qual:Str)(scope:Scope)(f:Addr)(cd:Value)(A:Around)(outer:List Env)(s:Shared)(H:Hp)(E:XK):Cx where
 prog:=P
 w:=w
 K:=K
 mg:=mg
 base:=base
 A:=A.deeper (envOfC qual scope s.heap.objs.size f cd)
 N:=N
 s₀:=s
 H₀:=H
 env:=envOfC qual scope s.heap.objs.size f cd
 outer:=outer
 stack:=envOfC qual scope s.heap.objs.size f cd::outer
 ex:=[]
 calm:=true
 fn:=fun _=>true
 pn:=[]
 xe:=fun e s'=>wpAny (model P w) (A.deeper (envOfC qual scope s.heap.objs.size f cd)) (leaving (envOfC qual scope s.heap.objs.size f cd) e) (fun _ s''=>CX outer H s E e s'') (fun e' s''=>CX outer H s E e' s'') s'
theorem Y4e {sc:Scope}{n:Nat}{x:Str}(h:sc.names.lookup x=some .cell):∃ c,(cellsFrom n sc.names []).lookup x=some c:=by
 have q:=PySem.W.cellsFrom_some sc.names n [] (.inl h)
 exact Option.isSome_iff_exists.mp q
theorem Y7y {CX:CXT}{P:Program}{w:World}{K:PySem.W.Frag}{mg:Str->Option Value}{base:Heap}{N ps:List Str}{qual:Str}{scope:Scope}{f:Addr}{cd:Value}{A:Around}{outer:List Env}{s s1:Shared}{H:Hp}{E:XK}{us:List Value}{vs:List V}
  (S:FnScope N ps scope) (hd:A.handled=none) (e0:Env0 P w K mg base A outer s H) (hl:vs.length=ps.length) (r:Vals vs us)
  (x:InCallC s s.heap.objs.size (bindL (envOfC qual scope s.heap.objs.size f cd).kindOf (ps.zip us) fun _=>none) (cellsFrom (s.heap.objs.size+1) scope.names []) (bindC (envOfC qual scope s.heap.objs.size f cd).kindOf (ps.zip us) fun _=>none) s1) :
  Inv (cxOf CX P w K mg base N qual scope f cd A outer s H E) [] (start N vs) H s1:=by
 have hpl:ps.length<=N.length:=by have:=congrArg List.length S.pre;rw[List.length_take] at this;omega
 obtain⟨h1,tk,rfl,hk⟩:=x.done
 have noA:∀ b:Addr,b ∉ (cxOf CX P w K mg base N qual scope f cd A outer s H E).ex:=fun b z=>absurd (show b∈([]:List Addr) from z) (by simp)
 refine⟨⟨e0.mod,S.kind,rfl,rfl,Nat.le_refl _,fun y z c h1 h2=>?_,fun y hy=>?_,fun y c _ h=>?_,fun _=>hd,Around.frames_deeper e0.frames,.inr ⟨rfl,rfl⟩,fun b z=>absurd z (noA b),e0.bs,e0.bsz,fun b _ _=>noA b,fun b z=>absurd z (noA b),e0.funs,e0.frf⟩,
  rfl,e0.bare,Un.kept hk,⟨_,x.toInCall.ns,fun i y v h1 h2 h3=>?_⟩,fun y c h=>⟨_,x.cell y c h⟩,e0.hok.fresh (Nat.le_refl _),fun y c h=>?_,fun p hp=>absurd (show p∈([]:List (Addr × Obj)) from hp) (by simp),e0.hok.kept hk,?_⟩
 ·exact name_of_addr x.apart (PySem.mem_of_lookup h1) (PySem.mem_of_lookup h2)
 ·have hy:scope.names.lookup y=some .cell∨scope.names.lookup y=some .free:=hy
  rcases hy with hy | hy
  ·exact Y4e hy
  ·exact absurd rfl (S.nofree _ (PySem.mem_of_lookup hy))
 ·exact Nat.le_of_lt (x.above y c (PySem.mem_of_lookup h))
 ·have hi:i<vs.length:=by
   unfold start at h2
   by_cases hi:i<vs.length
   ·exact hi
   ·rw[List.getElem?_append_right (by simpa using hi)] at h2
    rw[List.getElem?_replicate] at h2
    split at h2<;>cases h2
  have ha:vs[i]?=some v:=by
   unfold start at h2
   rw[List.getElem?_append_left (by simpa using hi),List.getElem?_map] at h2
   cases e:vs[i]? with
   | none=>rw[e] at h2;cases h2
   | some a=>rw[e] at h2;cases h2;rfl
  obtain⟨u,hu,rv⟩:=r.get ha
  have hp:ps[i]?=some y:=by
   rw[<-S.pre,List.getElem?_take_of_lt (by omega)];exact h1
  have ndP:ps.Nodup:=by rw[<-S.pre];exact S.nd.sublist (List.take_sublist _ _)
  refine⟨u,rv,?_⟩
  rcases S.par y (List.mem_of_getElem? hp) with k | k
  ·exact .inl ⟨k,Y0l ndP hp hu k⟩
  ·obtain⟨c,e⟩:=Y4e (n:=s.heap.objs.size+1) k
   refine .inr ⟨.inl k,c,e,?_⟩
   have q:=x.cell y c e
   rw[Y0n ndP hp hu (by show scope.names.lookup y≠_;rw[k];decide)] at q
   exact q
 ·exact e0.hok.fresh (Nat.le_of_lt (x.above y c (PySem.mem_of_lookup h)))
 ·unfold start
  show _=N.length
  rw[List.length_append,List.length_map,List.length_replicate]
  omega
theorem X7t {CX:CXT}{P:Program}{w:World}{K:PySem.W.Frag}{mg:Str->Option Value}{base:Heap}{k:Nat}{f:Addr}{name qual:Str}{params:Arguments}{body:List Stmt}{scope:Scope}{dV kV doc pm cdv ct oc:Value}{an od:Option Addr}
  {osl:Array (Option Value)}{N ps:List Str}{sp:Sp} (lk:K.lookup f=some ⟨oc,od,.func (PySem.W.fnOf name qual params body scope dV kV doc pm an cdv ct),osl⟩) (hcd:PySem.W.codeIn K cdv qual=true) (S:FnScope N ps scope)
  (len:∀ vs H Q E,sp vs H Q E->vs.length=ps.length)
  (hbody:∀ (A:Around) (outer:List Env) (s:Shared) (H:Hp) (vs:List V) (Q:VK) (E:XK),Room k (A.deeper (envOfC qual scope s.heap.objs.size f cdv))->sp vs H Q E →
   ∃ t,PSs (cxOf CX P w K mg base N qual scope f cdv A outer s H E) body t/\t { nx:=fun _ H'=>Q .non H',rt:=Q } (start N vs) H) :
  FnOk P w K mg base CX (k+1) f (PySem.W.fnOf name qual params body scope dV kV doc pm an cdv ct) ps sp:=by
 refine⟨len,fun A outer s H args us vs Q E hr e0 hb r hsp=>?_⟩
 have hl:=len _ _ _ _ hsp
 have KX:K.In s.heap:=e0.mod.kin.keeps fun b o e=>(e0.bs b o e).1
 have lim:s.heap.NoLimit:=e0.mod.nolimit.keeps fun b o e=>(e0.bs b o e).1
 have hkind:∀ y∈ps.zip us,scope.names.lookup y.1=some .local∨(scope.names.lookup y.1=some .cell/\((cellsFrom (s.heap.objs.size+1) scope.names []).lookup y.1).isSome=true):=fun ⟨n,v⟩ hy=>by
  rcases S.par n (List.of_mem_zip hy).1 with q | q
  ·exact .inl q
  ·exact .inr ⟨q,PySem.W.cellsFrom_some _ _ _ (.inl q)⟩
 refine codeAny_call_function hr.depth (KX _ _ lk) rfl S.co S.gen rfl (PySem.W.codeRec_of KX hcd) (hb _ _ _ _ ?_)
 refine wpAny_newFunctionEnv_cells S.kind hkind fun env he s1 x=>?_
 subst he
 refine⟨lim.keeps x.toInCall.keep,codeAny_func ?_⟩
 obtain⟨t,ht,hq⟩:=hbody A outer s H vs Q E (hr.deeper _) hsp
 have I:Inv (cxOf CX P w K mg base N qual scope f cdv A outer s H E) [] (start N vs) H s1:=Y7y S hr.hd e0 hl r x
 refine wpAny_mono (ht [] s1 (start N vs) H _ I hq) (fun fl s' hs=>?_) fun e s' hs=>hs
 have fin:∀ {σ':St}{H':Hp}{v:V}{u:Value},Inv (cxOf CX P w K mg base N qual scope f cdv A outer s H E) [] σ' H' s'->RelV v u->Q v H'->CE outer P w H s Q u s' :=
  fun {σ' H' v u} J rv q=>⟨v,H',J.os,J.bare,J.base,J.hok,rv,q⟩
 cases fl with
 | ret u =>
  obtain⟨v,σ',H',J,rv,q⟩:=hs
  exact fin J rv q
 | next =>
  obtain⟨σ',H',J,q⟩:=hs
  exact fin (v:=V.non) (u:=Value.none) J rfl q
 | brk =>
  obtain⟨_,_,_,q⟩:=hs
  exact False.elim q
 | cont =>
  obtain⟨_,_,_,q⟩:=hs
  exact False.elim q
section
variable {X:Cx}{x:Str}{p pos:Pos}{e:Expr}{es:List Expr}{t:TA}{id T:String}{r:List V->Hp->VK->Prop}
def tCB (r:List V->Hp->VK->Prop)(t:TA):TE:=fun σ H Q=>t σ H fun vs H1=>r vs H1 Q
theorem Z0q (hc:CallR X (.builtin id) r)(hg:Gl X x)(hm:X.mg x=none)(hv:bootBuiltins x=some (.builtin id))(ha:PA X (e::es) t)(hn:x≠"__name__":=by decide)(hdb:(x == ("__debug__":Str))=false:=by decide)
  (he:starEach (e::es) X.env=(false,eval e X.env)::starEach es X.env:=by rfl) (hpl:(backTo pos (starEach es X.env)).any (·.1)=false:=by rfl):PE X (.Call (.Name x p) (e::es) [] pos) (tCB r t):=by
 intro pins s σ H Q I h
 refine wpAny_Call_Name_kw (Z6x I hg hm hv ?_ hn hdb)
 exact PyProof.Rows.callWith_builtin1 (thn (ha pos pins s σ H _ I h) fun us s1 ⟨vs,H1,I1,r1,q1⟩=>hc pins s1 σ H1 vs us Q I1 r1 q1) he hpl
theorem Z4f (hc:CallR X (.type T) r)(hg:Gl X x)(hm:X.mg x=none)(hv:bootBuiltins x=some (.type T))(ha:PA X (e::es) t)(hn:x≠"__name__":=by decide)(hdb:(x == ("__debug__":Str))=false:=by decide)
  (he:starEach (e::es) X.env=(false,eval e X.env)::starEach es X.env:=by rfl) (hpl:(backTo pos (starEach es X.env)).any (·.1)=false:=by rfl):PE X (.Call (.Name x p) (e::es) [] pos) (tCB r t):=by
 intro pins s σ H Q I h
 refine wpAny_Call_Name_kw (Z6x I hg hm hv ?_ hn hdb)
 exact PyProof.Rows.callWith_type1 (thn (ha pos pins s σ H _ I h) fun us s1 ⟨vs,H1,I1,r1,q1⟩=>hc pins s1 σ H1 vs us Q I1 r1 q1) he hpl
end
end L2
namespace HT
open PySem PyProof.Rows
section
open PySem.SeqAt
open PySem.AutoSeq1 (wpAny_loadPart')
open PySem.MeetsSeq PySem.MeetsSeq2 PySem.MeetsSeq3
end
section
variable {prog:Program}{w:World}{A:Around}{E:Value->Shared->Prop}{s:Shared}
def sIx (n d:Nat):Option Int->Nat
 | none=>d
 | some v=>if v<0 then (v+(n:Int)).toNat else min v.toNat n
theorem Y9l (n d:Nat):sIx n d none=d:=rfl
theorem Y6c (n d k:Nat):sIx n d (some (k:Int))=min k n:=by
 show (if (k:Int)<0 then ((k:Int)+(n:Int)).toNat else min (k:Int).toNat n)=min k n
 rw[if_neg (by omega),Int.toNat_natCast]
theorem X6p (n d:Nat)(hd:d<=n)(o:Option Int):sIx n d o<=n:=by
 cases o with
 | none=>exact hd
 | some v =>
  show (if v<0 then (v+(n:Int)).toNat else min v.toNat n)<=n
  by_cases hv:v<0
  ·rw[if_pos hv];omega
  ·rw[if_neg hv];exact Nat.min_le_right _ _
theorem Y1u (v:Int)(n d:Nat):(if v<0 then max (v+(n:Int)) 0 else min v (n:Int))=((sIx n d (some v):Nat):Int):=by
 show (if v<0 then max (v+(n:Int)) 0 else min v (n:Int))=(((if v<0 then (v+(n:Int)).toNat else min v.toNat n):Nat):Int)
 by_cases hv:v<0
 ·simp only[if_pos hv];omega
 ·simp only[if_neg hv];omega
theorem Y5d (lo hi:Option Int)(n:Nat):Builtin.Slice.sliceAdjust lo hi 1 (n:Int)=(((sIx n 0 lo:Nat):Int),((sIx n n hi:Nat):Int)):=by
 have h1:¬ ((1:Int)<0):=by omega
 unfold Builtin.Slice.sliceAdjust
 simp only[h1,if_false]
 refine Prod.ext ?_ ?_
 ·cases lo with
  | none=>rfl
  | some v=>exact Y1u v n 0
 ·cases hi with
  | none=>rfl
  | some v=>exact Y1u v n n
theorem Y4m (i j:Nat):Builtin.Slice.slicePlaces (i:Int) (j:Int) 1=j-i:=by
 unfold Builtin.Slice.slicePlaces
 have h1:(1:Int)>0:=by omega
 simp only[h1,if_true,Int.ediv_one]
 split<;>omega
theorem Z7m {v:Value}{o:Option Int}{Q:Option Int->Shared->Prop}(p:IsPart v o)(h:Q o s):wpAny (model prog w) A (Builtin.Slice.slicePartIndex v) Q E s:=by
 cases p with
 | none=>exact slicePart_none h
 | int i t=>exact slicePart_int h
theorem Z3v {sl:Addr}{vl vu:Value}{lo hi:Option Int}{n:Nat}{Q:Int × Int × Nat->Shared->Prop}(hs:s.heap.IsSliceOf sl vl vu .none)(pl:IsPart vl lo)(pu:IsPart vu hi)
  (h:Q (((sIx n 0 lo:Nat):Int),1,sIx n n hi-sIx n 0 lo) s):wpAny (model prog w) A (Builtin.Slice.sliceApplied (.ref sl) (pure (n:Int))) Q E s:=by
 obtain⟨os,hos,hcs,hds⟩:=id hs
 unfold Builtin.Slice.sliceApplied Builtin.Slice.sliceFields
 refine wpAny_bind (wpAny_bind (wpAny_field hos hds (x:=vl) rfl (wpAny_bind (wpAny_field hos hds (x:=vu) rfl (wpAny_bind (wpAny_field hos hds (x:=.none) rfl (wpAny_pure ?_)))))))
 refine wpAny_bind (slicePart_none ?_)
 show wpAny _ _ (if ((1:Int) == 0)=true then _ else _) _ _ s
 rw[if_neg (by decide)]
 refine wpAny_bind (Z7m pl (wpAny_bind (Z7m pu (wpAny_bind (wpAny_pure ?_)))))
 show wpAny _ _ (match Builtin.Slice.sliceAdjust lo hi 1 (n:Int) with | (lo,hi)=>pure (lo,(1:Int),Builtin.Slice.slicePlaces lo hi 1)) _ _ s
 rw[Y5d lo hi n]
 show wpAny _ _ (pure (((sIx n 0 lo:Nat):Int),(1:Int),Builtin.Slice.slicePlaces ((sIx n 0 lo:Nat):Int) ((sIx n n hi:Nat):Int) 1)) _ _ s
 rw[Y4m]
 exact wpAny_pure h
theorem Y9s (xs:Array Value)(i k:Nat):((List.range k).filterMap fun (m:Nat)=>xs[((i:Int)+(m:Int)*1).toNat]?).toArray=((xs.toList.drop i).take k).toArray:=by
 have e:(fun (m:Nat)=>xs[((i:Int)+(m:Int)*1).toNat]?)=fun m=>xs[i+m]?:=by
  funext m
  have:((i:Int)+(m:Int)*1).toNat=i+m:=by omega
  rw[this]
 rw[e]
 have:=pick_run xs i k
 rw[List.filterMap_map] at this
 have e2:((fun x=>xs[x]?) ∘ fun x=>i+x)=fun m=>xs[i+m]?:=rfl
 rw[e2] at this
 rw[this]
theorem Z5p {t sl:Addr}{items:Array Value}{vl vu:Value}{lo hi:Option Int}{Q:Value->Shared->Prop}(ht:IsTup s.heap t items)(hs:s.heap.IsSliceOf sl vl vu .none)(pl:IsPart vl lo)(pu:IsPart vu hi)
  (hw:¬ (sIx items.size 0 lo=0/\sIx items.size items.size hi=items.size))
  (h:Q (.ref s.heap.objs.size) { s with heap:=s.heap.push { cls:=.type "tuple",data:=.seq ((items.toList.drop (sIx items.size 0 lo)).take (sIx items.size items.size hi-sIx items.size 0 lo)).toArray } })
  (hsz:items.size<=sizeLine):wpAny (model prog w) A (getItem (.ref t) (.ref sl)) Q E s:=by
 have htake:sizeOk (.seq ((items.toList.drop (sIx items.size 0 lo)).take (sIx items.size items.size hi-sIx items.size 0 lo)).toArray):=by
  show ((items.toList.drop (sIx items.size 0 lo)).take (sIx items.size items.size hi-sIx items.size 0 lo)).toArray.size<=sizeLine
  rw[List.size_toArray,List.length_take,List.length_drop,Array.length_toList]
  omega
 have hj:sIx items.size items.size hi<=items.size:=X6p _ _ (Nat.le_refl _) hi
 obtain⟨os,hos,hcs,hds⟩:=id hs
 have hTs:s.TypeIs (.ref sl) "slice":=⟨os,hos,hcs⟩
 unfold getItem
 try with_reducible refine wpAny_holding ?_
 first | refine wpAny_bind (wpAny_pure ?_) | skip
 refine wpAny_bind (wpAny_sequenceKey ht.typeIs (by decide) ?_)
 refine wpAny_bind (wpAny_callSpecial?_slot (name:=Str.ofString "__getitem__") ht.typeIs PyProof.Rows.slot_tuple_getitem
  (wpAny_call_entry PyProof.Rows.slot_tuple_getitem ht.typeIs entry_tuple_getitem ?_ (args_tuple_getitem _ _)))
 show wpAny _ _ (Builtin.Tuple.tupleItemsOf (.ref t) >>= _) _ _ s
 refine wpAny_bind (tupleItemsOf_ ht ?_)
 refine wpAny_bind (wpAny_typeOf hTs ?_)
 rw[if_pos (by decide)]
 refine wpAny_bind (Z3v hs pl pu ?_)
 have hno:¬ ((((sIx items.size 0 lo:Nat):Int) == 0 && (1:Int) == 1 && (sIx items.size items.size hi-sIx items.size 0 lo) == items.size)=true):=by
  intro q
  rw[Bool.and_eq_true,Bool.and_eq_true] at q
  have q1:((sIx items.size 0 lo:Nat):Int)=0:=eq_of_beq q.1.1
  have q2:sIx items.size items.size hi-sIx items.size 0 lo=items.size:=eq_of_beq q.2
  exact hw ⟨by omega,by omega⟩
 show wpAny _ _ (if (((sIx items.size 0 lo:Nat):Int) == 0 && (1:Int) == 1 && (sIx items.size items.size hi-sIx items.size 0 lo) == items.size)=true then _ else _) _ _ s
 rw[if_neg hno,Y9s]
 first
  | exact wpAny_bind (m:=Builtin.Tuple.tupleExact _) (wpAny_newObj_type (wpAny_pure ⟨_,rfl,wpAny_pure h⟩) htake)
  | exact wpAny_bind (m:=Builtin.Tuple.tupleExact _) (wpAny_newObj_type (wpAny_bind (wpAny_pure (wpAny_pure ⟨_,rfl,wpAny_pure h⟩))) htake)
  | exact wpAny_bind (wpAny_bind (m:=Builtin.Tuple.tupleExact _) (wpAny_newObj_type (wpAny_pure (wpAny_pure ⟨_,rfl,wpAny_pure h⟩)) htake))
  | exact wpAny_bind (wpAny_bind (m:=Builtin.Tuple.tupleExact _) (wpAny_newObj_type (wpAny_pure ⟨_,rfl,wpAny_pure h⟩) htake))
end
end HT
namespace L2
open PySem PySem.Spec PyProof.Rows
abbrev TO:=St->Hp->(Option Int->Hp->Prop)->Prop
def PO (X:Cx)(e:Option Expr)(t:TO):Prop :=
 ∀ (pins:List (Addr × Obj)) (s:Shared) (σ:St) (H:Hp) (Q:Option Int->Hp->Prop),Inv X pins σ H s->t σ H Q →
  wpAny (model X.prog X.w) X.A (evalPart e X.env) (fun u s'=>∃ o H',Inv X pins σ H' s'/\IsPart u o/\Q o H') X.xe s
def X3c:TO:=fun _ H Q=>Q none H
def tPart (t:TE):TO:=fun σ H Q=>t σ H fun x H1=>∃ i,x=.int i/\Q (some i) H1
theorem Z1w {ns:List Int}:∀ {us:List Value},Vals (ns.map V.int) us->IntsAre us ns:=by
 induction ns with
 | nil=>intro us r;rw[List.map_nil] at r;cases r;exact .nil
 | cons n ns ih =>
  intro us r
  rw[List.map_cons] at r
  cases r with
  | cons r1 r2 =>
   obtain⟨t,e⟩:=r1
   subst e
   exact .cons n t (ih r2)
section
variable {X:Cx}{e:Expr}{te:TE}{lo hi:Option Expr}{tl th:TO}{pos p2:Pos}
theorem Z4d:PO X none X3c:=by
 intro pins s σ H Q I h
 rw[evalPart_none]
 exact wpAny_pure ⟨none,H,I,.none,h⟩
theorem Z2j (h:PE X e te):PO X (some e) (tPart te):=by
 intro pins s σ H Q I hw
 rw[evalPart_some]
 refine thn (h pins s σ H _ I hw) fun u s1 ⟨x,H1,I1,r1,q1⟩=>?_
 obtain⟨i,rfl,q⟩:=q1
 obtain⟨t,rfl⟩:=r1
 exact⟨some i,H1,I1,.int i t,q⟩
def SlR (X:Cx)(r:V->Option Int->Option Int->Hp->VK->Prop):Prop :=
 ∀ (pins:List (Addr × Obj)) (s:Shared) (σ:St) (H:Hp) (x:V) (v vl vu:Value) (lo hi:Option Int) (sl:Addr) (Q:VK),Inv X pins σ H s->RelV x v->s.heap.IsSliceOf sl vl vu .none->IsPart vl lo->IsPart vu hi->r x lo hi H Q →
  ∃ T id,typeLookup (.type T) "__getitem__"=pure (some (.builtin id))/\s.TypeIs v T/\wpAny (model X.prog X.w) X.A (getItem v (.ref sl)) (EP X pins σ Q) X.xe s
def tSl (r:V->Option Int->Option Int->Hp->VK->Prop)(te:TE)(tl th:TO):TE:=fun σ H Q=>te σ H fun x H1=>tl σ H1 fun l H2=>th σ H2 fun u H3=>r x l u H3 Q
theorem Z2k {r:V->Option Int->Option Int->Hp->VK->Prop}(hr:SlR X r)(he:PE X e te)(hl:PO X lo tl)(hu:PO X hi th):PE X (.Subscript e (.Slice lo hi none p2) pos) (tSl r te tl th):=by
 intro pins s σ H Q I h
 refine Subscript_ (thn (he pins s σ H _ I h) fun v s1 ⟨x,H1,I1,r1,q1⟩=>?_)
 refine wpAny_Slice (thn (hl pins s1 σ H1 _ I1 q1) fun vl s2 ⟨l,H2,I2,pl,q2⟩=>thn (hu pins s2 σ H2 _ I2 q2) fun vu s3 ⟨u,H3,I3,pu,q3⟩=>?_)
 rw[evalPart_none]
 refine wpAny_pure ?_
 have I4:Inv X pins σ H3 { s3 with heap:=s3.heap.push { cls:=.type "slice",data:=.fields #[vl,vu,.none] } }:=I3.kept (t':=s3.toks) fun b ob q=>Heap.get?_push_of_some _ q
 obtain⟨T,id,hT,ht,hg⟩:=hr pins { s3 with heap:=s3.heap.push { cls:=.type "slice",data:=.fields #[vl,vu,.none] } } σ H3 x v vl vu l u s3.heap.objs.size Q I4 r1 (Heap.IsSliceOf.new ..) pl pu q3
 show wpAny (model X.prog X.w) X.A (subscriptTail e (.Slice lo hi none p2) v (.ref s3.heap.objs.size)) (EP X pins σ Q) X.xe { s3 with heap:=s3.heap.push { cls:=.type "slice",data:=.fields #[vl,vu,.none] } }
 exact tail_any (ops:=[.ref s3.heap.objs.size,v]) ht hT hg (by with_unfolding_all rfl)
def cutV (xs:List V)(lo hi:Option Int):List V:=(xs.drop (HT.sIx xs.length 0 lo)).take (HT.sIx xs.length xs.length hi-HT.sIx xs.length 0 lo)
theorem Z7b (xs:List V)(lo hi:Option Int):(cutV xs lo hi).length<=xs.length:=by
 unfold cutV
 rw[List.length_take,List.length_drop]
 omega
def rSlT (K:PySem.W.Frag):V->Option Int->Option Int->Hp->VK->Prop:=fun x lo hi H Q=>∃ a xs,x=.ref a/\SqT K H a xs ∧
 ¬ (HT.sIx xs.length 0 lo=0/\HT.sIx xs.length xs.length hi=xs.length)/\∀ p,H p=none->Q (.ref p) (upd H p (.tup (cutV xs lo hi)))
theorem Y6a:SlR X (rSlT X.K):=by
 intro pins s σ H x v vl vu lo hi sl Q I rx hs pl pu h
 obtain⟨a,xs,rfl,hx,hw,q⟩:=h
 cases rx
 obtain⟨its,r,ht,hz⟩:=I.tuple hx
 have hlen:its.toArray.size=xs.length:=by rw[List.size_toArray];exact r.length.symm
 refine⟨"tuple",_,PyProof.Rows.slot_tuple_getitem.lookup,ht.typeIs,?_⟩
 refine HT.Z5p ht hs pl pu (by rw[hlen];exact hw) ?_ (by rw[hlen];exact hz)
 rw[hlen]
 refine⟨.ref s.heap.objs.size,_,I.laid (t':=s.toks) (o:=.tup (cutV xs lo hi)) (fun b ob q=>Heap.get?_push_of_some _ q) (Nat.le_refl _) ?_,rfl,q _ (I.hok.fresh (Nat.le_refl _))⟩
 exact⟨Nat.le_trans (Z7b xs lo hi) hz,_,(r.drop (HT.sIx xs.length 0 lo)).take (HT.sIx xs.length xs.length hi-HT.sIx xs.length 0 lo),IsTup.new _ _⟩
end
def ixN (n:Nat)(i:Int):Option Nat:=if 0<=i then (if i<n then some i.toNat else none) else if -(n:Int)<=i then some (i+n).toNat else none
def atI {α:Type}(xs:List α)(i:Int):Option α:=(ixN xs.length i).bind fun j=>xs[j]?
theorem Y7v {n:Nat}{i:Int}{j:Nat}(h:ixN n i=some j):seqIndex? i n=some j/\j<n/\-(n:Int)<=i/\i<n:=by
 unfold ixN at h
 by_cases h0:0<=i
 ·rw[if_pos h0] at h
  by_cases h1:i<n
  ·rw[if_pos h1] at h
   have e:i.toNat=j:=Option.some.inj h
   exact⟨by rw[seqIndex_of h0 h1,e],by omega,by omega,h1⟩
  ·rw[if_neg h1] at h;cases h
 ·rw[if_neg h0] at h
  by_cases h1:-(n:Int)<=i
  ·rw[if_pos h1] at h
   have e:(i+n).toNat=j:=Option.some.inj h
   exact⟨by rw[seqIndex_neg (by omega) h1,e],by omega,h1,by omega⟩
  ·rw[if_neg h1] at h;cases h
theorem Y8y {α:Type}{xs:List α}{i:Int}{v:α}(h:atI xs i=some v):∃ j,seqIndex? i xs.length=some j/\xs[j]?=some v/\j<xs.length/\-(xs.length:Int)<=i/\i<xs.length:=by
 unfold atI at h
 cases e:ixN xs.length i with
 | none=>rw[e] at h;cases h
 | some j =>
  rw[e] at h
  obtain⟨h1,h2,h3,h4⟩:=Y7v e
  exact⟨j,h1,h,h2,h3,h4⟩
theorem Z4k {α:Type}{xs:List α}{j:Nat}{v:α}(h:xs[j]?=some v):atI xs (j:Int)=some v:=by
 have hj:j<xs.length:=(List.getElem?_eq_some_iff.mp h).1
 have e:ixN xs.length (j:Int)=some j:=by
  unfold ixN
  rw[if_pos (by omega),if_pos (by omega)];simp
 unfold atI;rw[e];exact h
def X5y (b:Expr):Prop:=∀ o i,subscripted b false o i=operate [o,i] (getItem o i)
def IxR (X:Cx)(r:R2):Prop :=
 ∀ (value slice:Expr) (pins:List (Addr × Obj)) (s:Shared) (σ:St) (H:Hp) (x y:V) (v u:Value) (Q:VK),Inv X pins σ H s->RelV x v->RelV y u->r x y H Q →
  subscripted slice false v u=operate [v,u] (getItem v u)->wpAny (model X.prog X.w) X.A (subscriptTail value slice v u) (EP X pins σ Q) X.xe s
def MtR (X:Cx)(id:String)(r:V->List V->Hp->VK->Prop):Prop :=
 ∀ (pins:List (Addr × Obj)) (s:Shared) (σ:St) (H:Hp) (x:V) (xs:List V) (v:Value) (us:List Value) (Q:VK),Inv X pins σ H s->RelV x v->Vals xs us->r x xs H Q →
  wpAny (model X.prog X.w) X.A (call (.builtin id) (v::us)) (EP X pins σ Q) X.xe s
section
variable {X:Cx}{a b:Expr}{ta tb:TE}{pos:Pos}
theorem Z0n {r:R2}(hr:IxR X r)(ha:PE X a ta)(hb:PE X b tb)(hs:X5y b):PE X (.Subscript a b pos) (tOp r ta tb):=by
 intro pins s σ H Q I h
 exact Subscript_ (binT ha hb I h fun v u s2 x y H2 I2 rx ry q=>hr a b pins s2 σ H2 x y v u Q I2 rx ry q (hs _ _))
def rIxL (K:PySem.W.Frag):R2:=fun x y H Q=>∃ p xs i v,x=.ref p/\y=.int i/\SqL K H p xs/\atI xs i=some v/\Q v H
def rIxT (K:PySem.W.Frag):R2:=fun x y H Q=>∃ p xs i v,x=.ref p/\y=.int i/\SqT K H p xs/\atI xs i=some v/\Q v H
theorem Z1a:IxR X (rIxL X.K):=by
 intro value slice pins s σ H x y v u Q I rx ry h hs
 obtain⟨p,xs,i,z,rfl,rfl,hq,he,q⟩:=h
 cases rx
 obtain⟨t,rfl⟩:=ry
 obtain⟨its,r,pl,hz⟩:=I.list hq
 obtain⟨j,h1,h2,h3,h4,h5⟩:=Y8y he
 obtain⟨w,ew,rw'⟩:=r.get h2
 have hl:=r.length
 have hn:=line63
 have fin:EP X pins σ Q w s:=⟨z,H,I,rw',q⟩
 by_cases h0:0<=i
 ·have hj:i.toNat=j:=by
   rw[seqIndex_of h0 h5] at h1
   exact Option.some.inj h1
  exact item_listR pl.isList h0 (by omega) (by rw[hj];simpa using ew) fin hs
 ·have hj:(i+(its.toArray.size:Int)).toNat=j:=by
   rw[seqIndex_neg (by omega) h4] at h1
   rw[List.size_toArray,<-hl]
   exact Option.some.inj h1
  exact subscriptTail_builtinR (x:=w) pl.isList.typeIs slot_list_getitem.lookup
   (wpAny_getItem_list_neg (Q:=fun r s'=>r=w/\EP X pins σ Q r s') pl.isList (by omega) (by rw[List.size_toArray]<;>omega) (by omega) (by rw[hj];simpa using ew) ⟨rfl,fin⟩) hs
theorem Z0l:IxR X (rIxT X.K):=by
 intro value slice pins s σ H x y v u Q I rx ry h hs
 obtain⟨p,xs,i,z,rfl,rfl,hq,he,q⟩:=h
 cases rx
 obtain⟨t,rfl⟩:=ry
 obtain⟨its,r,pl,hz⟩:=I.tuple hq
 obtain⟨j,h1,h2,h3,h4,h5⟩:=Y8y he
 obtain⟨w,ew,rw'⟩:=r.get h2
 have hl:=r.length
 have hn:=line63
 have fin:EP X pins σ Q w s:=⟨z,H,I,rw',q⟩
 exact subscriptTail_builtinR (x:=w) pl.typeIs slot_tuple_getitem.lookup
  (getItem_tuple (j:=j) (Q:=fun r s'=>r=w/\EP X pins σ Q r s') pl (by omega) (by omega) (by rw[List.size_toArray,<-hl];exact h1) (by simpa using ew) ⟨rfl,fin⟩) hs
theorem Y4w (its:List Value)(n j:Nat)(u:Value):Obj.mapSeq (·.setIfInBounds j u) { cls:=.type "list",data:=.seq its.toArray n }={ cls:=.type "list",data:=.seq (its.set j u).toArray n }:=by
 simp[Obj.mapSeq]
theorem Inv.lst {pins:List (Addr × Obj)}{σ:St}{H:Hp}{s:Shared}{p:Addr}{xs:List V}(I:Inv X pins σ H s)(h:H p=some (.lst xs)) :
  ∃ (its:List Value) (n:Nat),Vals xs its/\s.heap.get? p=some { cls:=.type "list",data:=.seq its.toArray n }/\xs.length<=sizeLine:=by
 obtain⟨z,its,n,r,e⟩:=I.hok p _ h
 exact⟨its,n,r,e,z⟩
theorem Inv.lstUpd {pins:List (Addr × Obj)}{σ:St}{H:Hp}{s:Shared}{p:Addr}{xs ys:List V}{its its':List Value}{n n':Nat}{f:Obj->Obj}(I:Inv X pins σ H s)(h:H p=some (.lst xs))
  (ho:s.heap.get? p=some { cls:=.type "list",data:=.seq its.toArray n }) (hf:f { cls:=.type "list",data:=.seq its.toArray n }={ cls:=.type "list",data:=.seq its'.toArray n' }) (r:Vals ys its') (hz:ys.length<=sizeLine) (t:Nat) :
  Inv X pins σ (upd H p (.lst ys)) { s with heap:=s.heap.update p f,toks:=t }:=by
 have e:(s.heap.update p f).get? p=some { cls:=.type "list",data:=.seq its'.toArray n' }:=by
  rw[Heap.get?_update_self f ho (by rw[hf]<;>rfl),hf]
 refine I.write (x:=p) (e:=p) (by rw[h];trivial) (.inl rfl) (fun b u hb q=>(Heap.get?_update_other _ _ (Ne.symm hb)).trans q) ⟨_,e⟩ ?_
 exact⟨hz,its',n',r,e⟩
def rSetL:V->V->V->Hp->(Hp->Prop)->Prop:=fun o i v H Q=>∃ p xs k j,o=.ref p/\i=.int k/\H p=some (.lst xs)/\ixN xs.length k=some j/\Q (upd H p (.lst (xs.set j v)))
theorem Z4w:PSet X rSetL:=by
 intro pins s σ H o i v ov iv u Q I ro ri rv h
 obtain⟨p,xs,k,j,rfl,rfl,hp,hj,q⟩:=h
 cases ro
 obtain⟨t,rfl⟩:=ri
 obtain⟨its,n,r,ho,hz⟩:=I.lst hp
 obtain⟨h1,h2,h3,h4⟩:=Y7v hj
 have hl:=r.length
 have hn:=line63
 have I':Inv X pins σ (upd H p (.lst (xs.set j v))) { s with heap:=s.heap.update p (Obj.mapSeq (·.setIfInBounds j u)) } :=
  I.lstUpd hp ho (Y4w its n j u) (r.set rv j) (by rw[List.length_set];exact hz) s.toks
 by_cases h0:0<=k
 ·have hk:k.toNat=j:=by
   rw[seqIndex_of h0 h4] at h1
   exact Option.some.inj h1
  exact PySem.W.ki_setAt ho h0 (by omega) (by rw[List.size_toArray,<-hl];exact h4) (by rw[hk];exact⟨_,I',q⟩)
 ·have hk:(k+(its.toArray.size:Int)).toNat=j:=by
   rw[seqIndex_neg (by omega) h3] at h1
   rw[List.size_toArray,<-hl]
   exact Option.some.inj h1
  exact PySem.W.ki_setBack ho (by omega) (by rw[List.size_toArray,<-hl];exact h3) (by omega) (by rw[hk];exact⟨_,I',q⟩)
theorem Z9n (lo hi:Option Int)(n:Nat):(sliceBounds lo hi none n).1=((HT.sIx n 0 lo:Nat):Int)/\(sliceBounds lo hi none n).2.1=((HT.sIx n n hi:Nat):Int)/\(sliceBounds lo hi none n).2.2=1:=by
 refine⟨?_,?_,rfl⟩
 ·cases lo with
  | none=>simp[sliceBounds,HT.sIx]
  | some i =>
   simp only[sliceBounds,HT.sIx,Option.getD_none,show (1:Int)>0 by decide,if_true]
   by_cases h:i<0
   ·simp only[h,if_true]<;>omega
   ·simp only[h,if_false]<;>omega
 ·cases hi with
  | none=>simp[sliceBounds,HT.sIx]
  | some i =>
   simp only[sliceBounds,HT.sIx,Option.getD_none,show (1:Int)>0 by decide,if_true]
   by_cases h:i<0
   ·simp only[h,if_true]<;>omega
   ·simp only[h,if_false]<;>omega
theorem Z8g (its:List Value)(lo hi:Option Int):slicePick its.toArray lo hi none=((its.drop (HT.sIx its.length 0 lo)).take (HT.sIx its.length its.length hi-HT.sIx its.length 0 lo)).toArray:=by
 obtain⟨h1,h2,h3⟩:=Z9n lo hi its.toArray.size
 unfold slicePick
 rw[h1,h2,h3]
 simp only[sliceRange_one,pick_run,List.size_toArray]<;>rfl
def rSlL (K:PySem.W.Frag):V->Option Int->Option Int->Hp->VK->Prop:=fun x lo hi H Q=>∃ a xs,x=.ref a/\SqL K H a xs/\∀ p,H p=none->Q (.ref p) (upd H p (.lst (cutV xs lo hi)))
theorem Z8h:SlR X (rSlL X.K):=by
 intro pins s σ H x v vl vu lo hi sl Q I rx hs pl pu h
 obtain⟨a,xs,rfl,hx,q⟩:=h
 cases rx
 obtain⟨its,r,ht,hz⟩:=I.list hx
 have hlen:=r.length
 refine⟨"list",_,slot_list_getitem.lookup,ht.isList.typeIs,?_⟩
 refine wpAny_getItem_list_slice ht.isList hs pl pu .none (by simp) ?_ (by rw[List.size_toArray]<;>omega)
 rw[Z8g,<-hlen]
 refine⟨.ref s.heap.objs.size,_,I.laid (t':=s.toks) (o:=.lst (cutV xs lo hi)) (fun b ob q=>Heap.get?_push_of_some _ q) (Nat.le_refl _) ?_,rfl,q _ (I.hok.fresh (Nat.le_refl _))⟩
 exact⟨Nat.le_trans (Z7b xs lo hi) hz,_,0,(r.drop (HT.sIx xs.length 0 lo)).take (HT.sIx xs.length xs.length hi-HT.sIx xs.length 0 lo),Heap.get?_push_size _ rfl⟩
def flatV:V->Bool
 | .non=>true
 | .bl _=>true
 | .int _=>true
 | .str _=>true
 | _=>false
def eqV:V->V->Bool
 | .non,.non=>true
 | .bl a,.bl b=>a == b
 | .bl a,.int b=>(if a then 1 else 0) == b
 | .int a,.bl b=>a == (if b then 1 else 0)
 | .int a,.int b=>a == b
 | .str a,.str b=>a == b
 | _,_=>false
theorem X7w {A:Around}{s:Shared}{y x:V}{u v:Value}(ry:RelV y u)(rx:RelV x v)(fy:flatV y=true)(fx:flatV x=true):SeqAt.EqAt A s u v (eqV y x):=by
 cases y with
 | non =>
  cases ry
  cases x with
  | non=>cases rx;exact SeqAt.EqAt.same _
  | bl b=>cases rx;exact SeqAt.EqAt.none_bool b
  | int b=>obtain⟨t,rfl⟩:=rx;exact SeqAt.EqAt.none_int b t
  | str b=>obtain⟨t,rfl⟩:=rx;exact SeqAt.EqAt.none_str b t
  | _=>exact absurd (show false=true from fx) Bool.false_ne_true
 | bl a =>
  cases ry
  cases x with
  | non=>cases rx;exact SeqAt.EqAt.bool_none a
  | bl b=>cases rx;exact SeqAt.EqAt.bool_bool a b
  | int b=>obtain⟨t,rfl⟩:=rx;exact SeqAt.EqAt.bool_int a b t
  | str b=>obtain⟨t,rfl⟩:=rx;exact SeqAt.EqAt.bool_str a b t
  | _=>exact absurd (show false=true from fx) Bool.false_ne_true
 | int a =>
  obtain⟨t',rfl⟩:=ry
  cases x with
  | non=>cases rx;exact SeqAt.EqAt.int_none a t'
  | bl b=>cases rx;exact SeqAt.EqAt.int_bool a t' b
  | int b=>obtain⟨t,rfl⟩:=rx;exact SeqAt.EqAt.int_int a t' b t
  | str b=>obtain⟨t,rfl⟩:=rx;exact SeqAt.EqAt.int_str a t' b t
  | _=>exact absurd (show false=true from fx) Bool.false_ne_true
 | str a =>
  obtain⟨t',rfl⟩:=ry
  cases x with
  | non=>cases rx;exact SeqAt.EqAt.str_none a t'
  | bl b=>cases rx;exact SeqAt.EqAt.str_bool a t' b
  | int b=>obtain⟨t,rfl⟩:=rx;exact SeqAt.EqAt.str_int a t' b t
  | str b=>obtain⟨t,rfl⟩:=rx;exact SeqAt.EqAt.str_str a t' b t
  | _=>exact absurd (show false=true from fx) Bool.false_ne_true
 | _=>exact absurd (show false=true from fy) Bool.false_ne_true
def eqU (x:V)(u:Value):Bool:=match u with
 | .none=>eqV .non x
 | .bool b=>eqV (.bl b) x
 | .int i _=>eqV (.int i) x
 | .str z _=>eqV (.str z) x
 | _=>false
theorem X2s {x y:V}{u:Value}(r:RelV y u)(f:flatV y=true):eqU x u=eqV y x:=by
 cases y with
 | non=>cases r;rfl
 | bl b=>cases r;rfl
 | int i=>obtain⟨t,rfl⟩:=r;rfl
 | str z=>obtain⟨t,rfl⟩:=r;rfl
 | _=>exact absurd (show false=true from f) Bool.false_ne_true
theorem Y1x {x:V}:∀ {xs:List V}{us:List Value},Vals xs us->xs.all flatV=true->us.any (eqU x)=xs.any fun y=>eqV y x
 | _,_,.nil,_=>rfl
 | y::xs,u::us,.cons r t,f=>by
  rw[List.all_cons,Bool.and_eq_true] at f
  rw[List.any_cons,List.any_cons,X2s r f.1,Y1x t f.2]
theorem Z8m {A:Around}{s:Shared}{x:V}{v:Value}(rx:RelV x v)(fx:flatV x=true):∀ {xs:List V}{us:List Value},Vals xs us->xs.all flatV=true->∀ u∈us,SeqAt.EqAt A s u v (eqU x u)
 | _,_,.nil,_=>fun u hu=>by cases hu
 | y::xs,u::us,.cons r t,f=>fun u' hu=>by
  rw[List.all_cons,Bool.and_eq_true] at f
  rcases List.mem_cons.mp hu with rfl | hu
  ·rw[X2s r f.1];exact X7w r rx f.1 fx
  ·exact Z8m rx fx t f.2 u' hu
def inV (x:V)(xs:List V):Bool:=xs.any fun y=>eqV y x
def rIn (K:PySem.W.Frag)(neg:Bool):R2:=fun x y H Q=>∃ p xs,y=.ref p/\(SqL K H p xs∨SqT K H p xs)/\flatV x=true/\xs.all flatV=true/\Q (.bl (if neg then !inV x xs else inV x xs)) H
theorem Z9v:OpR X (compareOp .In) (rIn X.K false):=by
 intro pins s σ H x y v u Q I rx ry h
 obtain⟨p,xs,rfl,hq,fx,fs,q⟩:=h
 cases ry
 rcases hq with hq | hq
 ·obtain⟨its,r,pl,hz⟩:=I.list hq
  refine SeqAt.in_listAt (eqU x) pl.isList (fun w hw=>Z8m rx fx r fs w (by simpa using hw)) ⟨.bl _,H,I,rfl,?_⟩
  rw[show its.toArray.any (eqU x)=its.any (eqU x) by simp,Y1x r fs]
  exact q
 ·obtain⟨its,r,pl,hz⟩:=I.tuple hq
  refine SeqAt.in_tupleAt (eqU x) pl (fun w hw=>Z8m rx fx r fs w (by simpa using hw)) ⟨.bl _,H,I,rfl,?_⟩
  rw[show its.toArray.any (eqU x)=its.any (eqU x) by simp,Y1x r fs]
  exact q
theorem Z0v:CallR X (.builtin "len") (fun xs H Q=>∃ p ys,xs=[.ref p]/\(SqL X.K H p ys∨SqT X.K H p ys)/\Q (.int ys.length) H):=by
 intro pins s σ H xs us Q I r h
 obtain⟨p,ys,rfl,hq,q⟩:=h
 obtain⟨u,rfl,rx⟩:=vals1 r
 cases rx
 have hn:=line63
 rcases hq with hq | hq
 ·obtain⟨its,r',pl,hz⟩:=I.list hq
  have hlen:=r'.length
  exact Calls.call_len_list pl.isList (by simp only[List.size_toArray]<;>omega) ⟨.int ys.length,H,I.tok _,⟨s.toks+1,by rw[List.size_toArray,hlen]⟩,q⟩
 ·obtain⟨its,r',pl,hz⟩:=I.tuple hq
  have hlen:=r'.length
  exact len_tuple pl (by simp only[List.size_toArray]<;>omega) ⟨.int ys.length,H,I.tok _,⟨s.toks+1,by rw[List.size_toArray,hlen]⟩,q⟩
theorem Z5y:CallR X (.type "list") (fun xs H Q=>∃ p ys,xs=[.ref p]/\(SqL X.K H p ys∨SqT X.K H p ys)/\∀ l,H l=none->Q (.ref l) (upd H l (.lst ys))):=by
 intro pins s σ H xs us Q I r h
 obtain⟨p,ys,rfl,hq,q⟩:=h
 obtain⟨u,rfl,rx⟩:=vals1 r
 cases rx
 have fin:∀ (its:List Value),Vals ys its->ys.length<=sizeLine->∀ (h':Heap) (c':Nat),(∀ b o',s.heap.get? b=some o'->h'.get? b=some o') →
   h'.get? s.heap.objs.size=some { cls:=.type "list",dict:=none,data:=.seq its.toArray c',slots:=#[] }->EP X pins σ Q (.ref s.heap.objs.size) { s with heap:=h' }:=fun its r' hz h' c' kp e =>
  ⟨.ref s.heap.objs.size,_,I.laid (t':=s.toks) kp (Nat.le_refl _) (show ObjOk X.prog X.w _ h' _ (.lst ys) from ⟨hz,its,c',r',e⟩),rfl,q _ (I.hok.fresh (Nat.le_refl _))⟩
 rcases hq with hq | hq
 ·obtain⟨its,r',pl,hz⟩:=I.list hq
  have hlen:=r'.length
  obtain⟨o,ho,hc,n,hd⟩:=pl.isList
  exact call_list_seq p (.inl rfl) ho hc hd (fun h' c' kp e=>fin its r' hz h' c' kp e) (by simp only[List.size_toArray]<;>omega)
 ·obtain⟨its,r',pl,hz⟩:=I.tuple hq
  have hlen:=r'.length
  obtain⟨o,ho,hc,n,hd⟩:=pl
  exact call_list_seq p (.inr rfl) ho hc hd (fun h' c' kp e=>fin its r' hz h' c' kp e) (by simp only[List.size_toArray]<;>omega)
def tyV (K:PySem.W.Frag)(T:String)(x:V)(H:Hp):Prop:=match x with
 | .str _=>T="str"
 | .int _=>T="int"
 | .ref p=>(T="list"/\∃ xs,SqL K H p xs)∨(T="tuple"/\∃ o,K.lookup p=some o/\o.cls=.type "tuple"/\o.dict=none) ∨
   (T="dict"/\((∃ kvs,H p=some (.dK kvs))∨∃ kvs,H p=some (.dT kvs)))∨(T="set"/\∃ S n,H p=some (.set S n))
 | _=>False
theorem X2b {pins:List (Addr × Obj)}{σ:St}{H:Hp}{s:Shared}{T:String}{x:V}{v:Value}(I:Inv X pins σ H s)(r:RelV x v)(ty:tyV X.K T x H) :
  s.TypeIs v T/\∀ a,v=.ref a->∃ ob,s.heap.get? a=some ob/\ob.dict=none:=by
 cases x with
 | str z =>
  obtain⟨t,rfl⟩:=r
  cases (show T="str" from ty)
  exact⟨typeIs_str s z t,fun _ e=>nomatch e⟩
 | int i =>
  obtain⟨t,rfl⟩:=r
  cases (show T="int" from ty)
  exact⟨typeIs_int s i t,fun _ e=>nomatch e⟩
 | ref p =>
  cases r
  rcases ty with ⟨rfl,xs,hq⟩ | ⟨rfl,o,hk,hc,hd⟩ | ⟨rfl,hk⟩ | ⟨rfl,S,n,hk⟩
  ·obtain⟨its,_,pl,_⟩:=I.list hq
   refine⟨pl.isList.typeIs,fun a e=>?_⟩
   cases e
   obtain⟨o,n,e,c,hd,_⟩:=pl
   exact⟨o,e,hd⟩
  ·refine⟨⟨o,I.kIn p o hk,hc⟩,fun a e=>?_⟩
   cases e
   exact⟨o,I.kIn _ o hk,hd⟩
  ·have z:∃ o,s.heap.get? p=some o/\o.ExactDict:=by
    rcases hk with ⟨kvs,hk⟩ | ⟨kvs,hk⟩
    ·obtain⟨_,_,_,_,o,_,_,e,ex,_⟩:=I.hok p _ hk
     exact⟨o,e,ex⟩
    ·obtain⟨_,_,_,_,o,_,_,e,ex,_⟩:=I.hok p _ hk
     exact⟨o,e,ex⟩
   obtain⟨o,e,ex⟩:=z
   refine⟨⟨o,e,ex.1⟩,fun a e2=>?_⟩
   cases e2
   exact⟨o,e,ex.2.1⟩
  ·obtain⟨o,_,_,_,e,ex,_⟩:=I.hok p _ hk
   refine⟨⟨o,e,ex.1⟩,fun a e2=>?_⟩
   cases e2
   exact⟨o,e,ex.2.1⟩
 | _=>exact False.elim ty
def tBM0 (K:PySem.W.Frag)(T:String)(r:V->List V->Hp->VK->Prop)(to:TE):TE:=fun σ H Q=>to σ H fun x H1=>tyV K T x H1/\r x [] H1 Q
def tBM (K:PySem.W.Frag)(T:String)(r:V->List V->Hp->VK->Prop)(to:TE)(t:TA):TE:=fun σ H Q=>to σ H fun x H1=>tyV K T x H1/\t σ H1 fun xs H2=>r x xs H2 Q
variable {o e:Expr}{es:List Expr}{to:TE}{t:TA}{name:Str}{apos cpos:Pos}{T id:String}{r:V->List V->Hp->VK->Prop}
theorem Z5b (pa:PlainAttrs T)(slot:Slot T name id)(hty:typeOf (.builtin id)=pure (.type "method_descriptor"))(hm:MtR X id r)(ho:PE X o to)
  (hbase:attributeBase o name X.env (eval o X.env)=eval o X.env:=by rfl) (hline:(apos.endLine == cpos.line)=true:=by rfl):PE X (.Call (.Attribute o name apos) [] [] cpos) (tBM0 X.K T r to):=by
 intro pins s σ H Q I h
 refine wpAny_Call_method0_late hbase hline (thn (ho pins s σ H _ I h) fun v s1 ⟨x,H1,I1,r1,ty,q1⟩=>?_)
 obtain⟨h1,h2⟩:=X2b I1 r1 ty
 exact⟨T,id,pa,slot,hty,h1,h2,Calls.callWith_builtin rfl (PySem.evalArgs_none (hm pins s1 σ H1 x [] v [] Q I1 r1 .nil q1))⟩
theorem Y1d (pa:PlainAttrs T)(slot:Slot T name id)(hty:typeOf (.builtin id)=pure (.type "method_descriptor"))(hm:MtR X id r)(ho:PE X o to)(ha:PA X (e::es) t)
  (hbase:attributeBase o name X.env (eval o X.env)=eval o X.env:=by rfl)
  (hfew:((backTo cpos (starEach (e::es) X.env)).all (fun x=>!x.1) && (backToKw cpos (keywordEach [] X.env)).all (fun x=>x.1.isSome)
   && decide ((e::es).length+([]:List Keyword).length+(if ([]:List Keyword).isEmpty then 0 else 1)<30))=true:=by rfl)
  (hline:(apos.endLine == cpos.line)=true:=by rfl) (hs:starEach (e::es) X.env=(false,eval e X.env)::starEach es X.env:=by rfl) (hplain:(backTo cpos (starEach es X.env)).any (·.1)=false:=by rfl) :
  PE X (.Call (.Attribute o name apos) (e::es) [] cpos) (tBM X.K T r to t):=by
 intro pins s σ H Q I h
 refine wpAny_Call_method_late hbase hfew hline rfl (thn (ho pins s σ H _ I h) fun v s1 ⟨x,H1,I1,r1,ty,q1⟩=>?_)
 obtain⟨h1,h2⟩:=X2b I1 r1 ty
 refine⟨T,id,pa,slot,hty,h1,h2,?_⟩
 have hA:=ha cpos pins s1 σ H1 _ I1 q1
 rw[hs] at hA ⊢
 refine Calls.callWith_builtin (by show (false || (backTo cpos (starEach es X.env)).any (·.1))=false;rw[hplain]<;>rfl) (Calls.evalArgs_plain ?_)
 exact thn hA fun us s2 ⟨vs,H2,I2,r2,q2⟩=>hm pins s2 σ H2 x vs v us Q I2 r1 r2 q2
end
def MtM (X:Cx)(id:String)(r:V->List V->Hp->VK->Prop):Prop :=
 ∀ (pins:List (Addr × Obj)) (s:Shared) (σ:St) (H:Hp) (x:V) (xs:List V) (v:Value) (us:List Value) (Q:VK),Inv X pins σ H s->RelV x v->Vals xs us->r x xs H Q →
  wpAny (model X.prog X.w) X.A (call (.builtin id) (v::us)) (EP X pins σ Q) X.xe s
theorem Vals.one {x:V}{us:List Value}(h:Vals [x] us):∃ u,us=[u]/\RelV x u:=by
 cases h with
 | cons r t=>cases t;exact⟨_,rfl,r⟩
theorem Vals.two {x y:V}{us:List Value}(h:Vals [x,y] us):∃ u v,us=[u,v]/\RelV x u/\RelV y v:=by
 cases h with
 | cons r t=>cases t with
  | cons q t=>cases t;exact⟨_,_,rfl,r,q⟩
theorem Vals.rep {xs:List V}{us:List Value}(h:Vals xs us):∀ k:Nat,Vals (List.replicate k xs).flatten (List.replicate k us).flatten
 | 0=>.nil
 | k+1=>by
  rw[List.replicate_succ,List.replicate_succ,List.flatten_cons,List.flatten_cons]
  exact Vals.append h (Vals.rep h k)
theorem Y0c (its:List Value):∀ (k:Nat) (acc:List Value),
  List.foldl (fun x1 x2=>x1++x2) acc.toArray (List.replicate k its.toArray)=(acc++(List.replicate k its).flatten).toArray
 | 0,acc=>by simp
 | k+1,acc=>by
  have e:acc.toArray++its.toArray=(acc++its).toArray:=by simp
  have e2:(acc++its)++(List.replicate k its).flatten=acc++(List.replicate (k+1) its).flatten:=by
   rw[List.replicate_succ,List.flatten_cons,List.append_assoc]
  rw[<-e2,<-Y0c its k (acc++its),<-e,List.replicate_succ,List.foldl_cons]
section
variable {X:Cx}{pins:List (Addr × Obj)}{σ:St}{H:Hp}{s:Shared}{l b:Addr}{xs ys zs:List V}
theorem Inv.lset {its its':List Value}{n:Nat}{f:Array Value->Array Value}{t':Nat}(I:Inv X pins σ H s)(hH:H l=some (.lst xs))
  (e:s.heap.get? l=some { cls:=.type "list",data:=.seq its.toArray n }) (hf:f its.toArray=its'.toArray) (hv:Vals ys its') (hz:ys.length<=sizeLine) :
  Inv X pins σ (upd H l (.lst ys)) { s with heap:=s.heap.update l (Obj.mapSeq f),toks:=t' }:=by
 have q:=PySem.IsL.update e f
 rw[hf] at q
 refine I.write (x:=l) (e:=l) (by rw[hH];exact trivial) (.inl rfl) (fun b' u hb hu=>(Heap.get?_update_other s.heap (Obj.mapSeq f) (Ne.symm hb)).trans hu) ⟨_,q⟩ ?_
 exact⟨hz,its',_,hv,q⟩
theorem Inv.lnew {its:List Value}{t':Nat}(I:Inv X pins σ H s)(hv:Vals ys its)(hz:ys.length<=sizeLine) :
  Inv X pins σ (upd H s.heap.objs.size (.lst ys)) { s with heap:=s.heap.push { cls:=.type "list",data:=.seq its.toArray },toks:=t' } :=
 I.laid (fun _ _ q=>Heap.get?_push_of_some _ q) (Nat.le_refl _) ⟨hz,its,0,hv,Heap.get?_push_size _ rfl⟩
theorem Inv.fresh (I:Inv X pins σ H s):H s.heap.objs.size=none:=I.hok.fresh (Nat.le_refl _)
theorem Inv.lstM (I:Inv X pins σ H s)(hH:H l=some (.lst xs)):xs.length<=sizeLine/\∃ (its:List Value) (n:Nat),Vals xs its/\xs.length=its.length/\s.heap.get? l=some { cls:=.type "list",data:=.seq its.toArray n }:=by
 obtain⟨z,its,n,r,e⟩:=I.hok l _ hH
 exact⟨z,its,n,r,r.length,e⟩
theorem Y3j {n:Nat}(h:n<=sizeLine):Builtin.List.listTooLong n=false:=by
 unfold Builtin.List.listTooLong
 exact decide_eq_false (by omega)
end
section
variable {X:Cx}
def X3n:V->List V->Hp->VK->Prop:=fun x vs H Q=>∃ l xs y,x=.ref l/\vs=[y]/\H l=some (.lst xs)/\xs.length<sizeLine/\Q .non (upd H l (.lst (xs++[y])))
theorem Z2m:MtM X "list.append" X3n:=by
 intro pins s σ H x vs v us Q I rx rv h
 obtain⟨l,xs,y,rfl,rfl,hH,hz,q⟩:=h
 cases rx
 obtain⟨u,rfl,ru⟩:=rv.one
 obtain⟨z,its,n,r,hl,e⟩:=I.lstM hH
 refine call_meets F.slot_list_append ⟨_,e,rfl⟩ F.entry_list_append (F.args_list_append_2 _ _) (PySem.list_append l its.toArray n u (by rw[List.size_toArray];omega)) ⟨e,?_⟩
 refine⟨.non,_,I.lset (its':=its++[u]) hH e (by simp) (r.append (.cons ru .nil)) ?_,rfl,q⟩
 rw[List.length_append,List.length_singleton]
 omega
def X3m:V->List V->Hp->VK->Prop:=fun x vs H Q=>∃ l b xs zs,x=.ref l/\vs=[.ref b]/\H l=some (.lst xs)/\H b=some (.lst zs)/\xs.length+zs.length<=sizeLine/\Q .non (upd H l (.lst (xs++zs)))
theorem X7e:MtM X "list.extend" X3m:=by
 intro pins s σ H x vs v us Q I rx rv h
 obtain⟨l,b,xs,zs,rfl,rfl,hH,hB,hz,q⟩:=h
 cases rx
 obtain⟨u,rfl,ru⟩:=rv.one
 cases ru
 obtain⟨z,its,n,r,hl,e⟩:=I.lstM hH
 obtain⟨z2,its2,n2,r2,hl2,e2⟩:=I.lstM hB
 have hsz:its.toArray.size+its2.toArray.size<=sizeLine:=by rw[List.size_toArray,List.size_toArray];omega
 have hlong:¬ (!its.toArray.isEmpty && Builtin.List.listTooLong (its.toArray.size+its2.toArray.size))=true:=by
  rw[Y3j hsz,Bool.and_false]
  exact Bool.false_ne_true
 refine call_meets F.slot_list_extend ⟨_,e,rfl⟩ F.entry_list_extend (F.args_list_extend_2 _ _)
  (AutoSeq1.list_extend_list_list_0 l its.toArray n b its2.toArray n2 hlong (by rw[List.size_toArray];omega) (by omega)) ⟨e,e2,?_⟩
 refine⟨.non,_,I.lset (its':=its++its2) hH e (by simp) (r.append r2) ?_,rfl,q⟩
 rw[List.length_append]
 omega
def rCat:R2:=fun x y H Q=>∃ l b xs zs,x=.ref l/\y=.ref b/\H l=some (.lst xs)/\H b=some (.lst zs)/\xs.length+zs.length<=sizeLine/\∀ p,H p=none->Q (.ref p) (upd H p (.lst (xs++zs)))
theorem X2h:OpR X (binaryOp .Add) rCat:=by
 intro pins s σ H x y v u Q I rx ry h
 obtain⟨l,b,xs,zs,rfl,rfl,hH,hB,hz,q⟩:=h
 cases rx
 cases ry
 obtain⟨z,its,n,r,hl,e⟩:=I.lstM hH
 obtain⟨z2,its2,n2,r2,hl2,e2⟩:=I.lstM hB
 refine PySem.P.add_list e e2 ?_ (by rw[List.size_toArray,List.size_toArray];omega)
 have ea:its.toArray++its2.toArray=(its++its2).toArray:=by simp
 rw[ea]
 exact⟨.ref _,_,I.lnew (t':=s.toks) (r.append r2) (by rw[List.length_append];omega),rfl,q _ I.fresh⟩
def rRep:R2:=fun x y H Q=>∃ l k xs,x=.ref l/\y=.int k/\H l=some (.lst xs)/\-(2^63)<=k/\k<2^63/\xs.length*k.toNat<=sizeLine ∧
 ∀ p,H p=none->Q (.ref p) (upd H p (.lst (List.replicate k.toNat xs).flatten))
theorem X4z {α:Type}(xs:List α)(k:Nat):(List.replicate k xs).flatten.length=k*xs.length:=by
 induction k with
 | zero=>simp
 | succ k ih=>rw[List.replicate_succ,List.flatten_cons,List.length_append,ih,Nat.succ_mul,Nat.add_comm]
theorem X6x:OpR X (binaryOp .Mult) rRep:=by
 intro pins s σ H x y v u Q I rx ry h
 obtain⟨l,k,xs,rfl,rfl,hH,h1,h2,hz,q⟩:=h
 cases rx
 obtain⟨t,rfl⟩:=ry
 obtain⟨z,its,n,r,hl,e⟩:=I.lstM hH
 have hlen:its.toArray.size*k.toNat<=sizeLine:=by rw[List.size_toArray,<-hl];exact hz
 have hcap:¬ its.toArray.size*k.toNat>(2^63-1) / 8:=by
  have:(sizeLine:Nat)<=(2^63-1) / 8:=by decide
  omega
 have hfit:¬ (!Builtin.List.listFitsIndex k)=true:=by
  rw[fitsIndex_both h1 h2]
  exact Bool.false_ne_true
 have hlong:¬ Builtin.List.listTooLong (its.toArray.size*k.toNat)=true:=by
  rw[Y3j hlen]
  exact Bool.false_ne_true
 have hnew:List.foldl (fun x1 x2=>x1++x2) #[] (List.replicate (if its.toArray.isEmpty=true then 0 else k.toNat) its.toArray)=(List.replicate k.toNat its).flatten.toArray:=by
  have f0:∀ m:Nat,List.foldl (fun x1 x2=>x1++x2) #[] (List.replicate m its.toArray)=(List.replicate m its).flatten.toArray:=fun m=>by
   have:=Y0c its m []
   rw[List.nil_append] at this
   exact this
  rw[f0]
  cases its with
  | nil=>simp
  | cons a r'=>rw[if_neg (by simp)]
 refine wpAny_binaryOp_repeat_ref (T:="list") (U:="int") (by decide) ⟨_,e,rfl⟩ (fun s'=>typeIs_int s' k t) noFill_list_mul F.fills_int_mul F.slot_int_rmul repeat_list F.slot_int_index.lookup
  (call_meets F.slot_int_rmul (typeIs_int s k t) F.entry_int_rmul (F.args_int_rmul_2 _ _) (int___rmul___int_list k t l its.toArray n)
   ⟨e,rfl,⟨_,e,rfl⟩,call_meets F.slot_list_mul ⟨_,e,rfl⟩ F.entry_list_mul (F.args_list_mul_2 _ _) (AutoListH.list___mul___list_int_3 l its.toArray n k t hfit hcap hlong) ⟨e,?_⟩⟩)
 rw[hnew]
 exact⟨.ref _,_,I.lnew (t':=s.toks) (r.rep k.toNat) (by rw[X4z,Nat.mul_comm];exact hz),rfl,q _ I.fresh⟩
end
section
variable {prog:Program}{w:World}{A:Around}{E:Value->Shared->Prop}{s:Shared}
end
section
variable {X:Cx}
end
end L2
namespace Att
open PySem PySem.W PySem.Calls PyProof.Rows
theorem Z7a {P:Params}{h:Heap}:∀ (ns:List Int) (vs:List Value),WellAll P h vs (ns.map WData.int)->IntsAre vs ns:=by
 intro ns
 induction ns with
 | nil =>
  intro vs w
  rw[List.map_nil] at w
  cases w
  exact .nil
 | cons n ns ih =>
  intro vs w
  rw[List.map_cons] at w
  cases w with
  | cons a b =>
   cases a
   exact .cons _ _ (ih _ b)
theorem Y6b {l:OpenLaw}{n:Nat}(hn:l.most=some n){P:Params}{h:Heap}{args:List WData}{vals:List Value}
  (hpre:l.row.toRowW.claim.pre args=true) (hwl:WellAll P h vals args) :
  ∃ a vs ns,vals=[Value.ref a]/\args=[WData.list (ns.map WData.int)]/\h.get? a=some { cls:=.type "list",data:=.seq vs.toArray }/\IntsAre vs ns/\ns.length<=n:=by
 have hsh:WShape.hasAll [] args [.list .int]=true:=(pre_splitW hpre).1
 have hc:l.pre.holds [] { args:=args }=true:=(pre_splitW hpre).2
 obtain⟨d,r,rfl,h1,h2⟩:=hasAllW_cons hsh
 obtain rfl:=hasAllW_nil h2
 obtain⟨xs,rfl,h3⟩:=hasW_list h1
 obtain⟨ns,rfl⟩:=items_int h3
 have hlen:ns.length<=n:=by
  unfold OpenLaw.pre at hc
  have h4:(WTm.not (.lt (.lit (.int (n:Int))) (.len (.arg 0)))).holds [] { args:=[.list (ns.map .int)] }=true:=by
   have h4:=(holds_andW hc).1
   rw[hn] at h4
   exact h4
  have h5:=condW_of h4 (w_not (w_lt w_lit (w_len_list (w_arg rfl))))
  rw[List.length_map] at h5
  refine Nat.le_of_not_lt fun q=>?_
  have q':(n:Int)<((ns.length:Nat):Int):=by omega
  first
   | (rw[decide_eq_true q'] at h5;exact absurd h5 (by decide))
   | (simp at h5;omega)
 cases hwl with
 | cons w1 w2 =>
  cases w2
  cases w1 with
  | list ho hall=>exact⟨_,_,ns,rfl,rfl,ho,Z7a ns _ hall,hlen⟩
theorem Y6h (l:OpenLaw)(args:List WData):l.row.toRowW.claim.post args (.bool true) args=true :=
 postW_of (r:=l.row.toRowW) (X:=(true == true))
  (show WShape.has [] (.bool true) .bool=true by first | rfl | decide | simp[WShape.has,WShape.arms,WShape.armsAll])
  (show (WTm.eq .res (.lit (.bool true))).value [] { args:=args,res:=some (.bool true),after:=args }=some (.bool (true == true)) from w_eq_bool (w_res rfl) w_lit) rfl
section
variable {prog:Program}{w:World}{A:Around}{E:Value->Shared->Prop}{s:Shared}{K:Frag}
end
end Att
namespace L2
open PySem PySem.Spec PyProof.Rows
theorem Z4v:∀ {vs:List Value}{ns:List Int},IntsAre vs ns->Vals (ns.map V.int) vs
 | _,_,.nil=>.nil
 | _,_,.cons n t h=>.cons ⟨t,rfl⟩ (Z4v h)
def Only (H:Hp):Prop:=∀ b,H b=none∨∃ o xs,H b=some (.frz o (.lst xs))
theorem X1c {P:Program}{w:World}{K:PySem.W.Frag}{mg mb:Str->Option Value}{CX:CXT}{k:Nat}{fa a:Addr}{fd:FuncData}{x:Str}{sp:Sp}{s₁:Shared}{vs:List Value}{ns:List Int}
  (KX:K.In s₁.heap) (hns:s₁.heap.Ns mainGlobals mg) (hb:s₁.heap.Ns builtinsNs mb) (hbb:∀ x:Str,x≠"__name__"->mb x=bootBuiltins x) (hlim:s₁.heap.NoLimit) (hg:s₁.gens=#[])
  (ha:s₁.heap.get? a=some { cls:=.type "list",data:=.seq vs.toArray }) (hi:IntsAre vs ns) (hl:ns.length<=sizeLine) (hr:Room k callerA)
  (F:∀ base:Heap,K.In base->base.Ns mainGlobals mg->FnOk P w K mg base CX k fa fd [x] sp) (hbind:∀ (s:Shared) (u:Value),BindsTo s fd ⟨[u],[]⟩ [(x,u)])
  (hsp:∀ H:Hp,Only H->SqL K H a (ns.map V.int)->sp [.ref a] H (fun v _=>v=.bl true) fun _ _ _=>False)
  (hCX:∀ H e s',CX [] H s₁ (fun _ _ _=>False) e s'->False) :
  codeAny (model P w) callerA (.call (.ref fa) ⟨[.ref a],[]⟩) (fun r s'=>r=.ok (.ret (.bool true))/\OldK s₁.heap s'.heap/\s'.os=s₁.os/\AllBare s'.gens) s₁:=by
 have rv:=Z4v hi
 have lenV:=hi.length
 have core:∀ H:Hp,Only H->SqL K H a (ns.map V.int)->HOk P w H s₁.heap->(∀ b,H b≠none->b=a)->(H a≠none->K.lookup a=none) →
   codeAny (model P w) callerA (.call (.ref fa) ⟨[.ref a],[]⟩) (fun r s'=>r=.ok (.ret (.bool true))/\OldK s₁.heap s'.heap/\s'.os=s₁.os/\AllBare s'.gens) s₁:=by
  intro H hO hS hok hA hK
  have base_of:∀ {b:Addr}{o:Obj},s₁.heap.get? b=some o->H b=none->(hidT s₁.heap H).get? b=some o:=fun e n=>X1f e n
  have noA:∀ {b:Addr}{o:Obj}{es:Array DictEntry}{ep:Nat},s₁.heap.get? b=some o->o.data=.dict es ep->H b=none:=fun {b o es ep} e d=>by
   cases q:H b with
   | none=>rfl
   | some u =>
    have e':b=a:=hA b (by rw[q];simp)
    subst e'
    rw[ha] at e;cases e
    have d':Data.seq vs.toArray _=Data.dict es ep:=d
    cases d'
  have nsK:∀ {b:Addr}{m:Str->Option Value},s₁.heap.Ns b m->(hidT s₁.heap H).Ns b m:=fun {b m} ⟨o,es,ep,e,d,r⟩=>⟨o,es,ep,base_of e (noA e d),d,r⟩
  have hKb:K.In (hidT s₁.heap H):=fun b o e=>base_of (KX b o e) (by
   cases q:H b with
   | none=>rfl
   | some u =>
    have e':b=a:=hA b (by rw[q];simp)
    subst e'
    rw[hK (by rw[q];simp)] at e;cases e)
  have hM:Mod K mg (hidT s₁.heap H):=⟨hKb,nsK hns,⟨mb,nsK hb,hbb⟩,let ⟨mc,h1,h2⟩:=hlim;⟨mc,nsK h1,h2⟩⟩
  have e0:Env0 P w K mg (hidT s₁.heap H) callerA [] s₁ H:=⟨rfl,hM,fun b o e=>X4q e,Nat.le_of_eq (Y8d _ _),trivial,fun b hb=>absurd (show b∈([]:List Addr) from hb) (by simp),hok,.of_eq hg⟩
  refine codeAny_mono ((F _ hKb (nsK hns)).run callerA [] s₁ H ⟨[.ref a],[]⟩ [.ref a] [.ref a] _ _ hr e0 (hbind s₁ (.ref a)) (.cons rfl .nil) (hsp H hO hS)) fun r s' h=>?_
  cases r with
  | error e=>exact(hCX H e s' h).elim
  | ok fl =>
   cases fl with
   | next=>exact False.elim h
   | brk=>exact False.elim h
   | cont=>exact False.elim h
   | ret u =>
    obtain⟨v,H',os,bare,un,hok',r',q⟩:=h
    have q':v=.bl true:=q
    subst q'
    obtain rfl:u=Value.bool true:=r'
    refine⟨rfl,OldK.of_keep fun b o e=>?_,os,bare⟩
    cases q:H b with
    | none=>exact un.keep b o e q (by intro z;exact absurd (show b∈([]:List Addr) from z) (by simp)) (by simp)
    | some u =>
     rcases hO b with z | ⟨ob,xs,z⟩
     ·rw[q] at z;cases z
     ·have z2:=un.frzs b ob _ z
      obtain⟨e1,_⟩:=hok b _ z
      obtain⟨e2,_⟩:=hok' b _ z2
      rw[e] at e1;cases e1
      exact e2
 cases hk:K.lookup a with
 | some o =>
  have e:=KX a o hk
  rw[ha] at e
  cases e
  refine core (fun _=>none) (fun _=>.inl rfl) (.inr ⟨_,vs.toArray,_,hk,rfl,rfl,rfl,by rw[List.size_toArray,lenV];exact hl,by simpa using rv⟩) (fun b u z=>by have z':(none:Option HO)=some u:=z;cases z') (fun b z=>absurd rfl z) fun z=>absurd rfl z
 | none =>
  refine core (fun b=>if b=a then some (.frz { cls:=.type "list",data:=.seq vs.toArray } (.lst (ns.map V.int))) else none) (fun b=>?_) (.inl (.inr ⟨{ cls:=.type "list",data:=.seq vs.toArray },if_pos rfl⟩)) (fun b u z=>?_) (fun b z=>?_) fun _=>hk
  ·by_cases hb:b=a
   ·exact .inr ⟨_,_,if_pos hb⟩
   ·exact .inl (if_neg hb)
  ·by_cases hb:b=a
   ·have z':=(if_pos hb).symm.trans z
    cases z'
    subst hb
    exact⟨ha,by rw[List.length_map];exact hl,vs,_,rv,ha⟩
   ·have z':=(if_neg hb).symm.trans z
    cases z'
  ·by_cases hb:b=a
   ·exact hb
   ·exact absurd (if_neg hb) z
end L2
namespace L2
open PySem PySem.Spec PyProof.Rows
def Z1s (s:Stmt):Arguments:=match s with
 | .FunctionDef _ a _ _ _ _ _ _ _ _=>a
 | _=>{ posonlyargs:=[],args:=[],vararg:=none,kwonlyargs:=[],kw_defaults:=[],kwarg:=none,defaults:=[] }
def Z1m (s:Stmt):List Stmt:=match s with
 | .FunctionDef _ _ b _ _ _ _ _ _ _=>b
 | _=>[]
def Z0i (s:Stmt):Scope:=match s with
 | .FunctionDef _ _ _ _ _ _ sc _ _ _=>sc
 | _=>{ kind:=.function,names:=[],isGenerator:=false,isCoroutine:=false }
abbrev CX0:CXT:=fun _ _ _ _ _ _=>False
abbrev E0:XK:=fun _ _ _=>False
theorem pass0 {X:Cx}:Passes CX0 X E0:=fun _ _ _ _ _ _ _ h=>h.elim
structure Fun (K:PySem.W.Frag) (x qual:Str) (st:Stmt) (f:Addr) (fd:FuncData):Prop where
 ex:∃ (oc:Value) (od:Option Addr) (kV doc pm:Value) (an:Option Addr) (cdv ct:Value) (osl:Array (Option Value)),
  fd=PySem.W.fnOf x qual (Z1s st) (Z1m st) (Z0i st) .none kV doc pm an cdv ct/\K.lookup f=some ⟨oc,od,.func fd,osl⟩/\PySem.W.codeIn K cdv qual=true
 kp:PySem.W.keepIn K (.ref f)=true
section
variable {P:Program}{w:World}{K:PySem.W.Frag}{mg:Str->Option Value}{base:Heap}
theorem Fun.ok {x qual:Str}{st:Stmt}{f:Addr}{fd:FuncData}{N ps:List Str}{k:Nat}{sp:Sp}(F:Fun K x qual st f fd)(S:FnScope N ps (Z0i st))(len:∀ vs H Q E,sp vs H Q E->vs.length=ps.length)
  (hbody:∀ (cdv:Value) (A:Around) (outer:List Env) (s:Shared) (H:Hp) (vs:List V) (Q:VK) (E:XK),Room k (A.deeper (envOfC qual (Z0i st) s.heap.objs.size f cdv))->sp vs H Q E →
   ∃ t,PSs (cxOf CX0 P w K mg base N qual (Z0i st) f cdv A outer s H E).nox (Z1m st) t/\t { nx:=fun _ H'=>Q .non H',rt:=Q } (start N vs) H):FnOk P w K mg base CX0 (k+1) f fd ps sp:=by
 obtain⟨oc,od,kV,doc,pm,an,cdv,ct,osl,rfl,lk,hcd⟩:=F.ex
 refine X7t lk hcd S len fun A outer s H vs Q E hr hsp=>?_
 obtain⟨t,h,q⟩:=hbody cdv A outer s H vs Q E hr hsp
 exact⟨t,h.nox,q⟩
theorem X7s {x qual:Str}{st:Stmt}{f:Addr}{oc:Value}{od an:Option Addr}{osl:Array (Option Value)}{kV doc pm cdv ct:Value}(l:K.lookup f=some ⟨oc,od,.func (PySem.W.fnOf x qual (Z1s st) (Z1m st) (Z0i st) .none kV doc pm an cdv ct),osl⟩)
  (c:PySem.W.codeIn K cdv qual=true) (k:PySem.W.keepIn K (.ref f)=true):Fun K x qual st f (PySem.W.fnOf x qual (Z1s st) (Z1m st) (Z0i st) .none kV doc pm an cdv ct):=⟨⟨oc,od,kV,doc,pm,an,cdv,ct,osl,rfl,l,c⟩,k⟩
end
theorem Y1q {A:Around}{k:Nat}(hr:Room k A):A.units+1<cLine:=Nat.lt_of_le_of_lt (Nat.add_le_add_left (by decide:1<=64) _) hr.units
section
variable {X:Cx}
theorem pv (i:Nat){x:Str}{pos:Pos}(hN:X.N[i]?=some x:=by rfl)(hv:Vis X.env.scope x:=by first | exact Or.inl rfl | exact Or.inr (Or.inl rfl) | exact Or.inr (Or.inr rfl))(hd:(x == ("__debug__":Str))=false:=by decide)
  (hcd:(x == ("__classdict__":Str))=false:=by decide):PE X (.Name x pos) (tVar i):=X6u hN hv hd hcd
end
theorem iteF {A B:Prop}(h:B):if false=true then A else B:=by
 rw[if_neg Bool.false_ne_true]
 exact h
theorem iteT {A B:Prop}(h:A):if true=true then A else B:=by
 rw[if_pos rfl]
 exact h
def Same (H H':Hp):Prop:=∀ b o,H b=some o->H' b=some o
theorem Same.refl (H:Hp):Same H H:=fun _ _ h=>h
theorem Same.trans {H H1 H2:Hp}(a:Same H H1)(b:Same H1 H2):Same H H2:=fun c o h=>b c o (a c o h)
theorem Same.free {H H':Hp}(e:Same H H'){l:Addr}(h:H' l=Option.none):H l=Option.none:=by
 cases q:H l with
 | none=>rfl
 | some o =>
  rw[e l o q] at h
  cases h
theorem Same.seq {K:PySem.W.Frag}{H H':Hp}{a:Addr}{xs:List V}(e:Same H H')(h:SqL K H a xs):SqL K H' a xs:=by
 rcases h with (h | ⟨o,h⟩) | h
 ·exact .inl (.inl (e _ _ h))
 ·exact .inl (.inr ⟨o,e _ _ h⟩)
 ·exact .inr h
end L2
set_option maxHeartbeats 4000000
namespace L2
open PySem PySem.Spec PyProof.Rows
def Sz (k:Nat)(x:Int):Prop:=x.natAbs<2^k
instance (k:Nat) (x:Int):Decidable (Sz k x):=by unfold Sz;infer_instance
theorem Sz.mono {j k:Nat}{x:Int}(h:Sz j x)(hjk:j<=k):Sz k x:=Nat.lt_of_lt_of_le h (Nat.pow_le_pow_right (by decide) hjk)
theorem Sz.le {k:Nat}{x y:Int}(h:Sz k x)(hy:y.natAbs<=x.natAbs):Sz k y:=Nat.lt_of_le_of_lt hy h
theorem Sz.mul {j k:Nat}{x y:Int}(h:Sz j x)(h':Sz k y):Sz (j+k) (x*y):=by
 unfold Sz at *
 rw[Int.natAbs_mul,Nat.pow_add]
 exact Nat.mul_lt_mul'' h h'
theorem Sz.neg {k:Nat}{x:Int}(h:Sz k x):Sz k (-x):=by unfold Sz at *;rwa [Int.natAbs_neg]
theorem Sz.add {j k:Nat}{x y:Int}(h:Sz j x)(h':Sz k y):Sz (max j k+1) (x+y):=by
 have h1:=h.mono (Nat.le_max_left j k)
 have h2:=h'.mono (Nat.le_max_right j k)
 unfold Sz at *
 rw[Nat.pow_succ]
 have:=Int.natAbs_add_le x y
 omega
theorem Sz.sub {j k:Nat}{x y:Int}(h:Sz j x)(h':Sz k y):Sz (max j k+1) (x-y):=by
 have:=h.add h'.neg
 rwa [<-Int.sub_eq_add_neg] at this
theorem Sz.bits {k:Nat}{x:Int}(h:Sz k x):Builtin.Int.intBits x<=k:=by
 unfold Builtin.Int.intBits
 split
 ·exact Nat.zero_le _
 ·rename_i hx
  have hx':x≠0:=by simpa using hx
  have hn:x.natAbs≠0:=by omega
  exact(Nat.log2_lt hn).mpr h
theorem Sz.log2 {k:Nat}{x:Int}(h:Sz k x)(hk:0<k):x.natAbs.log2<k:=by
 by_cases hn:x.natAbs=0
 ·rw[hn];simpa using hk
 ·exact(Nat.log2_lt hn).mpr h
def CDivS (_i j:Int):Prop:=j≠0/\Sz 9000 j
section
variable {X:Cx}
theorem Z5e:OpR X (binaryOp .FloorDiv) (rI CDivS fun i j=>.int (i.fdiv j)):=opI fun _ _ _ _ _ _ _ hc q=>floordiv_int hc.1 q (.inl (PyProof.noPylong_of_log2 (hc.2.log2 (by decide))))
theorem Z3m {h:Heap}{a:Addr}{vs:List Value}{ns:List Int}(hl:IsTup h a vs.toArray)(hi:IntsAre vs ns):Reads h (.ref a) (.tuple (ns.map PyData.int)) []:=by
 obtain⟨o,ho,hc,n,hd⟩:=hl
 exact Reads.tuple ho hc hd (by simpa using PySem.W.readsAll_of_ints hi)
theorem Z3p (ns:List Int):SeqAt.shaped (.tuple (ns.map PyData.int))=true:=by
 have h1:=PySem.W.depthAll_ints ns
 have h2:PyData.depth (.tuple (ns.map PyData.int))<=64:=by simp only[PyData.depth];omega
 show (PyData.canLay0 (.tuple (ns.map PyData.int)) && decide (PyData.depth (.tuple (ns.map PyData.int))<=64))=true
 rw[Bool.and_eq_true]
 exact⟨by simp only[PyData.canLay0];exact PySem.W.canLayAll0_ints ns,decide_eq_true h2⟩
def rEqTI (K:PySem.W.Frag)(neg:Bool):R2:=fun x y H Q=>∃ (a b:Addr) (ns ms:List Int),x=.ref a/\y=.ref b/\SqT K H a (ns.map V.int)/\SqT K H b (ms.map V.int)/\Q (.bl (if neg then !decide (ns=ms) else decide (ns=ms))) H
theorem Y1g (hu:X.A.units+64<cLine):OpR X (compareOp .Eq) (rEqTI X.K false):=by
 intro pins s σ H x y v u Q I rx ry h
 obtain⟨a,b,ns,ms,rfl,rfl,h1,h2,q⟩:=h
 cases rx;cases ry
 obtain⟨its,rv,p,_⟩:=I.tuple h1
 obtain⟨its',rv',p',_⟩:=I.tuple h2
 refine eq_dataH_same (Z3m p (Z1w rv)) (Z3m p' (Z1w rv')) (Z3p ns) (Z3p ms) hu (by simp only[SeqAt.noMix];exact PySem.W.noMix_ints ns ms) ?_
 refine⟨.bl (decide (ns=ms)),H,I,?_,q⟩
 show _=_
 simp only[PySem.Spec.same]
 rw[PySem.W.same_ints]
theorem Y6p (hu:X.A.units+64<cLine):OpR X (compareOp .NotEq) (rEqTI X.K true):=by
 intro pins s σ H x y v u Q I rx ry h
 obtain⟨a,b,ns,ms,rfl,rfl,h1,h2,q⟩:=h
 cases rx;cases ry
 obtain⟨its,rv,p,_⟩:=I.tuple h1
 obtain⟨its',rv',p',_⟩:=I.tuple h2
 refine ne_dataH_same (Z3m p (Z1w rv)) (Z3m p' (Z1w rv')) (Z3p ns) (Z3p ms) hu (by simp only[SeqAt.noMix];exact PySem.W.noMix_ints ns ms) ?_
 refine⟨.bl (!decide (ns=ms)),H,I,?_,q⟩
 show _=_
 simp only[PySem.Spec.same]
 rw[PySem.W.same_ints]
theorem Z1f:CallR X (.builtin "isinstance") (fun xs H Q=>∃ x T t b,xs=[x,.ty T]/\TyOf X.K H x t/\PySem.W.kitOne X.K t (.type T)=some b/\Q (.bl b) H):=by
 intro pins s σ H xs us Q I r h
 obtain⟨x,T,t,b,rfl,ty,e,q⟩:=h
 obtain⟨u,v,rfl,ru,rv⟩:=r.two
 cases rv
 exact Y7x I ru ty e fun tk=>⟨.bl b,H,I.tok tk,rfl,q⟩
end
section
variable {prog:Program}{w:World}{A:Around}{E:Value->Shared->Prop}
end
section
variable {X:Cx}{pos:Pos}
end
section
variable {X:Cx}{tg:Expr}
end
end L2
namespace L2
open PySem PySem.Spec PyProof.Rows
theorem Z7u {α β:Type}{f:α->β->Sem (ForInStep β)}{g:β->α->β}:∀ (l:List α) (b:β),(∀ x∈l,∀ b,f x b=pure (.yield (g b x)))->forIn l b f=pure (l.foldl g b)
 | [],b,_=>rfl
 | x::r,b,h=>by
  rw[List.forIn_cons,h x List.mem_cons_self b,pure_bind]
  exact Z7u r (g b x) fun y hy=>h y (List.mem_cons_of_mem _ hy)
def cloF (cells:List (Str × Addr))(cs:List (Str × Addr))(x:Str × NameKind):List (Str × Addr):=if x.2 == .free then (x.1,(cells.lookup x.1).getD 0)::cs else cs
def clo (names:List (Str × NameKind))(cells:List (Str × Addr)):List (Str × Addr):=names.foldl (cloF cells) []
theorem Z4l {scope:Scope}{env:Env}(h:∀ x∈scope.names,x.2=.free->∃ c,env.cells.lookup x.1=some c):closureFor scope env=pure (clo scope.names env.cells):=by
 simp only[closureFor]
 unfold clo
 rw[Z7u (g:=cloF env.cells) scope.names [] (fun x hx b=>by
  obtain⟨n,k⟩:=x
  unfold cloF
  by_cases hk:k=.free
  ·subst hk
   obtain⟨c,hc⟩:=h (n,.free) hx rfl
   have hc':env.cells.lookup n=some c:=hc
   simp[cellOf,hc']
  ·have hb:(k == NameKind.free)=false:=by simpa using hk
   simp[hb])]
 rfl
theorem Z4o {x n:Str}{c:Addr}{l:List (Str × Addr)}:List.lookup x ((n,c)::l)=if x=n then some c else List.lookup x l:=by
 by_cases h:x=n
 ·subst h
  rw[if_pos rfl,List.lookup_cons_self]
 ·rw[if_neg h,List.lookup_cons]
  have:(x == n)=false:=by simpa using h
  rw[this]
theorem Y8p {cells:List (Str × Addr)}:∀ (names:List (Str × NameKind)) (cs:List (Str × Addr)),(∀ x∈names,x.2=.free->∃ c,cells.lookup x.1=some c)->(∀ x c,cs.lookup x=some c->cells.lookup x=some c) →
  ∀ x c,(names.foldl (cloF cells) cs).lookup x=some c->cells.lookup x=some c
 | [],cs,_,h0=>h0
 | (n,k)::r,cs,h,h0=>by
  refine Y8p r _ (fun y hy=>h y (List.mem_cons_of_mem _ hy)) fun x c e=>?_
  unfold cloF at e
  by_cases hk:k=.free
  ·subst hk
   obtain⟨c',hc'⟩:=h (n,.free) List.mem_cons_self rfl
   simp only[beq_self_eq_true,if_true] at e
   rw[Z4o] at e
   have hc':cells.lookup n=some c':=hc'
   by_cases hx:x=n
   ·subst hx
    rw[if_pos rfl,hc'] at e
    rw[hc']
    exact e
   ·rw[if_neg hx] at e
    exact h0 x c e
  ·have hb:(k == NameKind.free)=false:=by simpa using hk
   simp only[hb,Bool.false_eq_true,if_false] at e
   exact h0 x c e
theorem Z8w {cells:List (Str × Addr)}:∀ (names:List (Str × NameKind)) (cs:List (Str × Addr)) (x:Str),((x,NameKind.free)∈names∨∃ c,cs.lookup x=some c)->∃ c,(names.foldl (cloF cells) cs).lookup x=some c
 | [],cs,x,h=>by
  rcases h with h | h
  ·cases h
  ·exact h
 | (n,k)::r,cs,x,h=>by
  refine Z8w r _ x ?_
  unfold cloF
  by_cases hk:k=.free
  ·subst hk
   simp only[beq_self_eq_true,if_true]
   rw[Z4o]
   by_cases hx:x=n
   ·exact .inr ⟨_,if_pos hx⟩
   ·rw[if_neg hx]
    rcases h with h | h
    ·rcases List.mem_cons.mp h with h | h
     ·exact absurd (congrArg Prod.fst h) hx
     ·exact .inl h
    ·exact .inr h
  ·have hb:(k == NameKind.free)=false:=by simpa using hk
   simp only[hb,Bool.false_eq_true,if_false]
   rcases h with h | h
   ·rcases List.mem_cons.mp h with h | h
    ·exact absurd (congrArg Prod.snd h).symm hk
    ·exact .inl h
   ·exact .inr h
structure LcOk (N:List Str) (osc sc:Scope) (Nc:List Str) (mp:List (Option Nat)):Prop where
 kind:sc.kind=.function
 nocell:∀ y∈sc.names,y.2≠.cell
 names:∀ y∈sc.names,y.2=.local->sc.names.lookup y.1=some .local
 free:∀ y∈sc.names,y.2=.free->osc.names.lookup y.1=some .cell∨osc.names.lookup y.1=some .free
 len:mp.length=Nc.length
 map:∀ (i j:Nat),mp[i]?=some (some j)->∃ x,Nc[i]?=some x/\N[j]?=some x/\sc.names.lookup x=some .free
def lcChk (N:List Str)(osc sc:Scope)(Nc:List Str)(mp:List (Option Nat)):Bool :=
 decide (sc.kind=.function) && sc.names.all (fun y=>!decide (y.2=.cell) && (!decide (y.2=.local) || decide (sc.names.lookup y.1=some .local)) &&
  (!decide (y.2=.free) || decide (osc.names.lookup y.1=some .cell) || decide (osc.names.lookup y.1=some .free))) &&
 decide (mp.length=Nc.length) && (List.range mp.length).all fun i=>match mp[i]? with
  | some (some j)=>match Nc[i]? with
   | some x=>decide (N[j]?=some x) && decide (sc.names.lookup x=some .free)
   | none=>false
  | _=>true
theorem LcOk.of {N:List Str}{osc sc:Scope}{Nc:List Str}{mp:List (Option Nat)}(h:lcChk N osc sc Nc mp=true):LcOk N osc sc Nc mp:=by
 unfold lcChk at h
 simp only[Bool.and_eq_true,decide_eq_true_eq,List.all_eq_true,Bool.or_eq_true,Bool.not_eq_true',decide_eq_false_iff_not] at h
 obtain⟨⟨⟨h1,h2⟩,h3⟩,h4⟩:=h
 refine⟨h1,fun y hy=>(h2 y hy).1.1,fun y hy e=>?_,fun y hy e=>?_,h3,fun i j e=>?_⟩
 ·rcases (h2 y hy).1.2 with q | q
  ·exact absurd e q
  ·exact q
 ·rcases (h2 y hy).2 with (q | q) | q
  ·exact absurd e q
  ·exact .inl q
  ·exact .inr q
 ·have hi:i<mp.length:=(List.getElem?_eq_some_iff.mp e).1
  have q:=h4 i (List.mem_range.mpr hi)
  rw[e] at q
  cases hx:Nc[i]? with
  | none=>rw[hx] at q;simp at q
  | some x =>
   rw[hx] at q
   simp only[Bool.and_eq_true,decide_eq_true_eq] at q
   exact⟨x,rfl,q.1,q.2⟩
theorem Z4i {f:Str × NameKind->Str × NameKind}(h1:∀ p,(f p).1=p.1)(h2:∀ p,p.2=.free->(f p).2=.cell∨(f p).2=.free):∀ {names:List (Str × NameKind)}{x:Str},names.lookup x=some .free->(names.map f).lookup x=some .cell∨(names.map f).lookup x=some .free
 | [],_,h=>by simp at h
 | (n,k)::r,x,h=>by
  have ih:=@Z4i f h1 h2 r x
  rw[List.map_cons]
  have q1:=h1 (n,k)
  have q2:=h2 (n,k)
  generalize f (n,k)=z at q1 q2
  obtain⟨n',k'⟩:=z
  have q1':n'=n:=q1
  subst q1'
  cases hx:x == n' with
  | true =>
   rw[List.lookup_cons,hx] at h
   have hk:k=.free:=by simpa using h
   rw[List.lookup_cons,hx]
   rcases q2 hk with e | e
   ·have e':k'=.cell:=e
    subst e'
    exact .inl rfl
   ·have e':k'=.free:=e
    subst e'
    exact .inr rfl
  | false =>
   rw[List.lookup_cons,hx] at h
   rw[List.lookup_cons,hx]
   exact ih h
theorem Z4s {env:Env}{names:List (Str × NameKind)}{x:Str}(h:names.lookup x=some .free) :
  (names.map fun (n,k)=>if (k == NameKind.free && env.scope.kind == .function && env.kindOf n == some .cell) then (n,NameKind.cell) else (n,k)).lookup x=some .cell ∨
  (names.map fun (n,k)=>if (k == NameKind.free && env.scope.kind == .function && env.kindOf n == some .cell) then (n,NameKind.cell) else (n,k)).lookup x=some .free:=by
 refine Z4i (fun p=>?_) (fun p hp=>?_) h
 ·obtain⟨n,k⟩:=p
  dsimp only
  split<;>rfl
 ·obtain⟨n,k⟩:=p
  dsimp only
  split
  ·exact .inl rfl
  ·exact .inr hp
theorem Z6o {env:Env}{names:List (Str × NameKind)}{x:Str}{k':NameKind}(hc:∀ y∈names,y.2≠.cell)(hk:k'=.cell∨k'=.free)
  (h:(names.map fun (n,k)=>if (k == NameKind.free && env.scope.kind == .function && env.kindOf n == some .cell) then (n,NameKind.cell) else (n,k)).lookup x=some k'):(x,NameKind.free)∈names:=by
 have m:=PySem.mem_of_lookup h
 obtain⟨⟨n,k⟩,hm,e⟩:=List.mem_map.mp m
 dsimp only at e
 by_cases hf:k=.free
 ·subst hf
  have e1:n=x:=by
   by_cases hc':(NameKind.free == NameKind.free && env.scope.kind == .function && env.kindOf n == some .cell)=true
   ·rw[if_pos hc'] at e
    exact congrArg Prod.fst e
   ·rw[if_neg hc'] at e
    exact congrArg Prod.fst e
  exact e1 ▸ hm
 ·have hb:(k == NameKind.free)=false:=by simpa using hf
  simp only[hb,Bool.false_and,Bool.false_eq_true,if_false] at e
  cases e
  rcases hk with z | z
  ·exact absurd z (hc _ hm)
  ·exact absurd z hf
def cxLc (X:Cx)(scope:Scope)(Nc:List Str)(ex:List Addr)(pins:List (Addr × Obj))(s:Shared)(H:Hp):Cx where
 prog:=X.prog
 w:=X.w
 K:=X.K
 mg:=X.mg
 base:=X.base
 A:=X.A
 N:=Nc
 s₀:=s
 H₀:=H
 env:=compEnvC scope (clo scope.names X.env.cells) s.heap.objs.size X.env
 outer:=X.stack
 stack:=X.stack
 ex:=ex
 fn:=fun _=>false
 calm:=X.calm
 pn:=X.pn++pins
 xe:=fun _ _=>False
def sub (mp:List (Option Nat))(σ:St):St:=mp.map fun o=>match o with | some j=>(σ[j]?).join | none=>none
theorem X3f {mp:List (Option Nat)}{σ:St}{i:Nat}{v:V}(h:(sub mp σ)[i]?=some (some v)):∃ j,mp[i]?=some (some j)/\σ[j]?=some (some v):=by
 unfold sub at h
 rw[List.getElem?_map] at h
 cases e:mp[i]? with
 | none=>rw[e] at h;cases h
 | some o =>
  rw[e] at h
  cases o with
  | none=>cases h
  | some j =>
   refine⟨j,rfl,?_⟩
   have h':(σ[j]?).join=some v:=Option.some.inj h
   cases q:σ[j]? with
   | none=>rw[q] at h';cases h'
   | some z=>rw[q] at h';exact congrArg some h'
section
variable {X:Cx}{pins:List (Addr × Obj)}{σ:St}{H:Hp}{s:Shared}{scope:Scope}{Nc:List Str}{mp:List (Option Nat)}{fp:List Addr}
theorem Z5g (I:Inv X pins σ H s)(S:LcOk X.N X.env.scope scope Nc mp):∀ x∈scope.names,x.2=.free->∃ c,X.env.cells.lookup x.1=some c:=fun x hx e =>
 I.ok.has x.1 (S.free x hx e)
theorem Z5x (I:Inv X pins σ H s)(S:LcOk X.N X.env.scope scope Nc mp){x:Str}{c:Addr}(h:(clo scope.names X.env.cells).lookup x=some c):X.env.cells.lookup x=some c :=
 Y8p scope.names [] (Z5g I S) (fun _ _ e=>by cases e) x c h
theorem X8t (I:Inv X pins σ H s)(S:LcOk X.N X.env.scope scope Nc mp)(hf:∀ b∈fp,FpOk X pins H b)(hl:∀ b∈fp,b<s.heap.objs.size):(cxLc X scope Nc fp pins s H).Ok where
 mod:=I.ok.mod
 kind:=S.kind
 glob:=I.ok.glob
 blt:=I.ok.blt
 above:=Nat.le_refl _
 inj:=fun x y c e1 e2=>I.ok.inj x y c (Z5x I S e1) (Z5x I S e2)
 has:=fun x h=>by
  have hm:(x,NameKind.free)∈scope.names:=by
   rcases h with h | h
   ·exact Z6o S.nocell (.inl rfl) h
   ·exact Z6o S.nocell (.inr rfl) h
  exact Z8w scope.names [] x (.inl hm)
 cab:=fun x c h _=>by cases h
 hd:=I.ok.hd
 frames:=I.ok.frames
 stk:=.inl rfl
 exf:=fun b hb=>⟨Nat.ne_of_lt (hl b hb),fun x c e=>(hf b hb).2.2.2.2.1 x c (Z5x I S e)⟩
 bs:=I.bs
 bsz:=Nat.le_trans I.ok.bsz I.sz
 noex:=fun b o e hb=>by
  rcases (hf b hb).2.2.2.1 with z | z
  ·exact I.ok.noex b o e z
  ·exact absurd (Nat.lt_of_lt_of_le (Heap.lt_size e) (Nat.le_trans I.ok.bsz z)) (Nat.lt_irrefl _)
 exfs:=fun b hb z=>by
  rcases List.mem_cons.mp (I.stkSub b z) with e | e
  ·exact(hf b hb).2.1 e
  ·exact(hf b hb).2.2.1 e
 funs:=I.stack
 frf:=I.stkFree
theorem Y3p (I:Inv X pins σ H s)(S:LcOk X.N X.env.scope scope Nc mp)(hf:∀ b∈fp,FpOk X pins H b)(hl:∀ b∈fp,b<s.heap.objs.size){h₁:Heap}{m:Str->Option Value}{tk:Nat}
  (hn:h₁.Ns s.heap.objs.size m) (k:∀ b o,s.heap.get? b=some o->h₁.get? b=some o):Inv (cxLc X scope Nc fp pins s H) [] (sub mp σ) H { s with heap:=h₁,toks:=tk }:=by
 refine⟨X8t I S hf hl,rfl,I.bare,Un.kept k,⟨m,hn,fun i x v e1 e2 _=>?_⟩,fun x c e=>?_,I.hok.fresh (Nat.le_refl _),fun x c e=>I.freeC x c (Z5x I S e),fun p hp=>?_,I.hok.kept k,?_⟩
 ·obtain⟨j,hj,hv⟩:=X3f e2
  obtain⟨y,y1,y2,y3⟩:=S.map i j hj
  have e1':Nc[i]?=some x:=e1
  rw[e1'] at y1
  cases y1
  have hm:=PySem.mem_of_lookup y3
  have vis:Vis X.env.scope x:=.inr (S.free _ hm rfl)
  obtain⟨mo,_,hloc⟩:=I.loc
  obtain⟨u,ru,lk⟩:=hloc j x v y2 hv vis
  refine⟨u,ru,.inr ⟨Z4s y3,?_⟩⟩
  obtain⟨c,hc⟩:=Z8w (cells:=X.env.cells) scope.names [] x (.inl hm)
  have hc':=Z5x I S hc
  rcases lk with ⟨z,_⟩ | ⟨_,c',z,q⟩
  ·rcases S.free _ hm rfl with z' | z'<;>(have z'':X.env.scope.names.lookup x=some .local:=z;rw[z''] at z';cases z')
  ·rw[hc'] at z
   cases z
   obtain⟨o,ho,hd⟩:=q
   exact⟨c,hc,o,k c o ho,hd⟩
 ·obtain⟨v,o,ho,hd⟩:=I.cell x c (Z5x I S e)
  exact⟨v,o,k c o ho,hd⟩
 ·have hp':p∈X.pn++pins:=by
   have:p∈(X.pn++pins)++[]:=hp
   simpa using this
  obtain⟨e,n,ne,nf,d⟩:=I.pin p hp'
  refine⟨k _ _ e,n,Nat.ne_of_lt (Heap.lt_size e),fun z=>?_,d⟩
  rcases List.mem_cons.mp (I.stkSub p.1 z) with q | q
  ·exact ne q
  ·exact nf q
 ·show (sub mp σ).length=Nc.length
  unfold sub
  rw[List.length_map]
  exact S.len
theorem X2n (I:Inv X pins σ H s)(hf:∀ b∈fp,FpOk X pins H b){σ':St}{H':Hp}{s':Shared}{pl:List (Addr × Obj)}(J:Inv (cxLc X scope Nc fp pins s H) pl σ' H' s'):Inv X pins σ H' s' :=
 I.call' J.os J.base J.hok J.bare fun b hb=>⟨(hf b hb).2.2.2.1,(hf b hb).2.1,(hf b hb).2.2.2.2.1,(hf b hb).2.2.2.2.2⟩
theorem Inv.turnedNew (I:Inv X pins σ H s){C:Addr}{h':Heap}{t':Nat}(k:∀ b o,b≠C->s.heap.get? b=some o->h'.get? b=some o)(hn:H C=none)(h1:X.s₀.heap.objs.size<=C)
  (hL:C≠X.env.locals) (hc:∀ x c,X.env.cells.lookup x=some c->c≠C) (hp:∀ p∈X.pn++pins,p.1≠C):Inv X pins σ H { s with heap:=h',toks:=t' } :=
 I.turned k hn hL (.inr h1) hc hp
end
section
variable {M:Model}{A:Around}{E:Value->Shared->Prop}
abbrev Calm:Value->Shared->Prop:=fun _ _=>False
theorem thenC {α β:Type}{m:Sem α}{f:α->Sem β}{P:α->Shared->Prop}{Q:β->Shared->Prop}{s:Shared}(h:wpAny M A m P Calm s)(k:∀ x s',P x s'->wpAny M A (f x) Q E s'):wpAny M A (m >>= f) Q E s :=
 wpAny_bind (wpAny_mono h k fun _ _ z=>z.elim)
end
theorem Z8t {prog:Program}{w:World}{A:Around}{R:Result->Shared->Prop}{s:Shared}{e t i:Expr}{sc:Scope}{pos:Pos}{it acc:Value}{env:Env}(J:Nat->Shared->Prop)
  (turn:∀ n s,J n s->wpAny (model prog w) A (pyNext it) (fun r s1=>(r=none->R (.ok .next) s1)/\∀ v,r=some v →
   wpAny (model prog w) A (letOwnedTupleGo t it v) (fun _ s2=>wpAny (model prog w) A (assign t env v) (fun _ s3=>wpAny (model prog w) A (eval e env) (fun x s4 =>
    wpAny (model prog w) A (call (.builtin "list.append") [acc,x]) (fun _ s5=>∃ m,m<n/\J m s5) Calm s4) Calm s3) Calm s2) Calm s1) Calm s)
  (n:Nat) (h:J n s):codeAny (model prog w) A (.compLoop (.ListComp e [⟨t,i,[],0⟩] sc pos) 0 it acc env) R s:=by
 have eq:=compTurn_list1 e t i sc pos it acc env
 refine codeAny_loop rfl J (fun n s j=>wpAny_noted (m:=compTurn (.ListComp e [⟨t,i,[],0⟩] sc pos) 0 it acc env) ?_) n h
 rw[eq]
 refine wpAny_bind (wpAny_standAt (thenC (turn n s j) fun r s1 q=>?_))
 match r,q with
 | none,q=>exact wpAny_pure (q.1 rfl)
 | some v,q=>exact thenC (q.2 v rfl) fun _ s2 q2=>thenC q2 fun _ s3 q3=>wpAny_bind (thenC q3 fun x s4 q4=>thenC q4 fun _ s5 q5=>wpAny_pure (wpAny_pure ⟨rfl,q5⟩))
def LcW (J:It)(g:TG)(te:TE)(σ:St)(H:Hp)(acc:Addr)(Q:VK):Prop:=∃ W:Nat->Nat->List V->St->Hp->Prop,(∃ m,W 0 m [] σ (upd H acc (.lst []))) ∧
 ∀ i m ys σ2 H2,W i m ys σ2 H2->(J.stop i H2/\Q (.ref acc) H2)∨(J.go i H2/\∀ x H3,J.yld i H2 x H3->g x σ2 H3 fun σ4 H4=>te σ4 H4 fun y H5 =>
  H5 acc=some (.lst ys)/\ys.length<sizeLine/\∃ m',m'<m/\W (i+1) m' (ys++[y]) σ4 (upd H5 acc (.lst (ys++[y]))))
def tLc (mp:List (Option Nat))(wi:TI)(g:TG)(te:TE):TE:=fun σ H Q=>wi σ H fun J H1=>∀ acc,H1 acc=none->LcW J g te (sub mp σ) H1 acc Q
section
variable {X:Cx}{elt tg iter:Expr}{scope:Scope}{pos:Pos}{wi:TI}{g:TG}{te:TE}{Nc:List Str}{mp:List (Option Nat)}
abbrev Z0t (s:Shared):Shared:={ s with heap:=s.heap.push { cls:=.type "list",dict:=none,data:=.seq ([]:List Value).toArray } }
theorem X2m (hc:X.calm=true)(S:LcOk X.N X.env.scope scope Nc mp)(hg:∀ ex pins s H,PG (cxLc X scope Nc ex pins s H) tg g)(he:∀ ex pins s H,PE (cxLc X scope Nc ex pins s H) elt te)
  {pins:List (Addr × Obj)}{σ:St}{H2:Hp}{s2:Shared}{E:Value->Shared->Prop}{it:Addr}{fp:List Addr}{tn:Nat->Heap->Prop}{J:It}{Q:VK}{RR:Value->Addr->Result->Shared->Prop}
  (I2:Inv X pins σ H2 s2) (T:Turn X.prog X.w X.K tg J fp it tn) (st2:tn 0 s2.heap) (f2:∀ b∈fp,FpOk X pins H2 b)
  (q:∀ acc,H2 acc=none->LcW J g te (sub mp σ) H2 acc Q)
  (fin:∀ acc C H' s' m',Q (.ref acc) H'->Inv X pins σ H' s'->s'.heap.Ns C m'->H' C=none->X.s₀.heap.objs.size<=C->C≠X.env.locals->(∀ x c,X.env.cells.lookup x=some c->c≠C)->(∀ p∈X.pn++pins,p.1≠C)->RR (.ref acc) C (.ok .next) s') :
  wpAny (model X.prog X.w) X.A (newList []) (fun acc s₃=>wpAny (model X.prog X.w) X.A (newFunctionEnv scope X.env.globals (clo scope.names X.env.cells) [] X.env.qual none .none (some X.env)) (fun cenv s₄ =>
   codeAny (model X.prog X.w) X.A (.compStart (.ListComp elt [⟨tg,iter,[],0⟩] scope pos) 0 (.ref it) acc { cenv with scope:=relabel scope X.env }) (RR acc cenv.locals) s₄) E s₃) E s2:=by
 refine wpAny_newObj_type (wpAny_newFunctionEnv S.nocell (by intro y hy;simp at hy) (fun h₁ hns₁ hsb₁=>?_) S.kind)
 dsimp only at hns₁ hsb₁ ⊢
 have I3:=I2.lnew (its:=[]) (ys:=[]) (t':=s2.toks) .nil (Nat.zero_le _)
 have hacc:H2 s2.heap.objs.size=none:=I2.fresh
 obtain⟨W,⟨m0,w0⟩,turn⟩:=q s2.heap.objs.size hacc
 have hpush:(s2.heap.push { cls:=.type "list",dict:=none,data:=.seq ([]:List Value).toArray }).objs.size=s2.heap.objs.size+1:=Heap.size_push ..
 have hlt:∀ b∈fp,b<s2.heap.objs.size:=fun b hb=>by
  obtain⟨o,e,_⟩:=T.obj _ _ st2 b hb
  exact Heap.lt_size e
 have f3:∀ b∈fp,FpOk X pins (upd H2 s2.heap.objs.size (.lst [])) b:=fun b hb=>⟨by rw[Z0x (Nat.ne_of_lt (hlt b hb))];exact(f2 b hb).1,(f2 b hb).2⟩
 have I3':Inv X pins σ (upd H2 s2.heap.objs.size (.lst [])) (Z0t s2):=I3
 have hsz:(Z0t s2).heap.objs.size=s2.heap.objs.size+1:=hpush
 have hlt3:∀ b∈fp,b<(Z0t s2).heap.objs.size:=fun b hb=>by rw[hsz];exact Nat.lt_succ_of_lt (hlt b hb)
 have k3:∀ b o,(Z0t s2).heap.get? b=some o->h₁.get? b=some o:=fun b o e=>hsb₁.extBut b o (Nat.ne_of_lt (Heap.lt_size e)) (Heap.get?_push_of_some _ e)
 have Ic:=Y3p (tk:=(Z0t s2).toks) I3' S f3 hlt3 hns₁ k3
 have st3:tn 0 h₁:=T.keep _ _ _ st2 fun b hb o e=>k3 b o (Heap.get?_push_of_some _ e)
 have cC:X.s₀.heap.objs.size<=(Z0t s2).heap.objs.size:=I3'.sz
 have cL:(Z0t s2).heap.objs.size≠X.env.locals:=Nat.ne_of_gt I3'.lt
 have cc:∀ x c,X.env.cells.lookup x=some c->c≠(Z0t s2).heap.objs.size:=fun x c e=>by
  obtain⟨v,o,ho,_⟩:=I3'.cell x c e
  exact Nat.ne_of_lt (Heap.lt_size ho)
 have cp:∀ p∈X.pn++pins,p.1≠(Z0t s2).heap.objs.size:=fun p hp=>Nat.ne_of_lt (Heap.lt_size (I3'.pin p hp).1)
 have stat:∀ {H':Hp},(∀ b∈fp,H' b=none)->∀ b∈fp,FpOk (cxLc X scope Nc fp pins (Z0t s2) (upd H2 s2.heap.objs.size (.lst []))) [] H' b:=fun hn b hb =>
  ⟨hn b hb,Nat.ne_of_lt (hlt3 b hb),fun z=>by
   rcases List.mem_cons.mp (I3'.stkSub b z) with e | e
   ·exact(f3 b hb).2.1 e
   ·exact(f3 b hb).2.2.1 e,.inl hb,fun x c e=>(f3 b hb).2.2.2.2.1 x c (Z5x I3' S e),fun p hp=>(f3 b hb).2.2.2.2.2 p (by
    have:p∈(X.pn++pins)++[]:=hp
    simpa using this)⟩
 have loop:∀ s4:Shared,s4={ (Z0t s2) with heap:=h₁,toks:=(Z0t s2).toks } →
   codeAny (model X.prog X.w) X.A (.compLoop (.ListComp elt [⟨tg,iter,[],0⟩] scope pos) 0 (.ref it) (.ref s2.heap.objs.size) (cxLc X scope Nc fp pins (Z0t s2) (upd H2 s2.heap.objs.size (.lst []))).env)
    (RR (.ref s2.heap.objs.size) (Z0t s2).heap.objs.size) s4:=by
  rintro s4 rfl
  refine Z8t (fun n s'=>∃ i ys σ' H',Inv (cxLc X scope Nc fp pins (Z0t s2) (upd H2 s2.heap.objs.size (.lst []))) [] σ' H' s'/\tn i s'.heap/\(∀ b∈fp,H' b=none)/\W i n ys σ' H') ?_ m0
   ⟨0,[],sub mp σ,_,Ic,st3,fun b hb=>(f3 b hb).1,w0⟩
  rintro n s5 ⟨i,ys,σ5,H5,I5,st5,fr5,w5⟩
  rcases turn i n ys σ5 H5 w5 with ⟨stop,qn⟩ | ⟨go,step⟩
  ·refine wpAny_mono (T.done (cxLc X scope Nc fp pins (Z0t s2) (upd H2 s2.heap.objs.size (.lst []))) rfl rfl rfl hc i [] s5 σ5 H5 (fun _ _=>False) I5 (stat fr5) st5 stop) (fun r s6 ⟨hr,I6⟩=>?_) fun _ _ f=>f.elim
   subst hr
   obtain⟨m6,hn6,_⟩:=I6.loc
   refine⟨fun _=>?_,fun _ z=>nomatch z⟩
   exact fin _ _ H5 s6 m6 qn (X2n I3' f3 I6) hn6 I6.free cC cL cc cp
  ·refine wpAny_mono (T.item (cxLc X scope Nc fp pins (Z0t s2) (upd H2 s2.heap.objs.size (.lst []))) rfl rfl rfl hc i [] s5 σ5 H5 (fun _ _=>False) I5 (stat fr5) st5 go) (fun r s6 ⟨u,hr,h6⟩=>?_) fun _ _ f=>f.elim
   subst hr
   refine⟨(fun z=>by cases z),?_⟩
   rintro _ ⟨⟩
   refine wpAny_mono h6 (fun _ s7 ⟨x,H7,I7,r7,y7,st7,fr7⟩=>?_) fun _ _ f=>f.elim
   have I7':=I7.pinned (stat fr7) (T.obj _ _ st7)
   refine wpAny_mono (hg _ _ _ _ _ s7 σ5 H7 x u _ I7' r7 (step x H7 y7)) (fun _ s8 ⟨σ8,H8,I8,q8⟩=>?_) fun _ _ f=>f.elim
   refine wpAny_mono (he _ _ _ _ _ s8 σ8 H8 _ I8 q8) (fun v s9 ⟨y,H9,I9,r9,a9,l9,m',hm',w9⟩=>?_) fun _ _ f=>f.elim
   refine wpAny_mono (Z2m (X:=cxLc X scope Nc fp pins (Z0t s2) (upd H2 s2.heap.objs.size (.lst []))) _ s9 σ8 H9 (.ref s2.heap.objs.size) [y] (.ref s2.heap.objs.size) [v] (fun z Hz=>z=.non/\Hz=upd H9 s2.heap.objs.size (.lst (ys++[y]))) I9 rfl (.cons r9 .nil) ⟨_,ys,y,rfl,rfl,a9,l9,rfl,rfl⟩) (fun v10 s10 ⟨z,H10,I10,_,_,e10⟩=>?_) fun _ _ f=>f.elim
   subst e10
   refine⟨m',hm',i+1,ys++[y],σ8,_,I10.unpinned,T.keep _ _ _ st7 fun b hb o e=>(I10.pin (b,o) (List.mem_append_right _ (List.mem_append_right _ (Z3a hb e)))).1,fun b hb=>?_,w9⟩
   obtain⟨o,e,d⟩:=T.obj _ _ st7 b hb
   exact(I10.pin (b,o) (List.mem_append_right _ (List.mem_append_right _ (Z3a hb e)))).2.1
 exact codeAny_compStart_list (loop _ rfl) (T.self _ 0 _ _ _ st3 (loop _ rfl))
theorem Z3k (hc:X.calm=true)(S:LcOk X.N X.env.scope scope Nc mp)(hi:PI X tg iter wi)(hg:∀ ex pins s H,PG (cxLc X scope Nc ex pins s H) tg g)(he:∀ ex pins s H,PE (cxLc X scope Nc ex pins s H) elt te)
  (hf:∀ x,foldedSetIterable iter X.env x=pure x:=by intro _;rfl):PE X (.ListComp elt [⟨tg,iter,[],0⟩] scope pos) (tLc mp wi g te):=by
 intro pins s σ H Q I h
 rw[eval_ListComp]
 refine wpAny_comprehension_free (use:=none) rfl hf (Z4l (Z5g I S)) S.kind S.names (thn (hi pins s σ H _ I h) fun v s1 h1=>thn h1 fun itv s2 h2=>?_)
 obtain⟨it,fp,tn,J,H2,e,I2,T,st2,f2,q⟩:=h2
 subst e
 refine X2m (RR:=fun acc C=>compPost (model X.prog X.w) X.A X.xe none (EP X pins σ Q) acc C) hc S hg he I2 T st2 f2 q ?_
 intro acc C H' s' m' qq I' hn hC c1 c2 c3 c4
 refine⟨m',hn,fun h' hs=>⟨.ref acc,H',?_,rfl,qq⟩⟩
 exact I'.turnedNew (t':=s'.toks) (fun b o hb e=>hs.extBut b o hb e) hC c1 c2 c3 c4
theorem Z2z {i:Nat}{x:Str}{pos' spos:Pos}(hc:X.calm=true)(hN:X.N.Nodup)(hi':X.N[i]?=some x)(hx:X.env.scope.names.lookup x=some .local)(S:LcOk X.N X.env.scope scope Nc mp)(hi:PI X tg iter wi)
  (hg:∀ ex pins s H,PG (cxLc X scope Nc ex pins s H) tg g) (he:∀ ex pins s H,PE (cxLc X scope Nc ex pins s H) elt te)
  (hsw:swapsWith (.ListComp elt [⟨tg,iter,[],0⟩] scope pos) (some (.Name x pos')) spos.line X.env=pure true)
  (hf:∀ x,foldedSetIterable iter X.env x=pure x:=by intro _;rfl):PS X (.Assign [.Name x pos'] (.ListComp elt [⟨tg,iter,[],0⟩] scope pos) spos) (tAsg (tLc mp wi g te) (gName i)):=by
 intro pins s σ H D I h
 rw[exec_Assign_Name_used _ _ _ _ hsw]
 refine wpAny_bind (wpAny_standAt (wpAny_bind ?_))
 show wpAny _ X.A (do let _ ← comprehension (.ListComp elt [⟨tg,iter,[],0⟩] scope pos) scope X.env _ (newList []) false (eval iter X.env) (some (assign (.Name x pos') X.env))) _ _ s
 refine wpAny_bind (wpAny_mono (wpAny_comprehension_free (use:=some (assign (.Name x pos') X.env)) (Q:=fun _ s'=>SP X pins D .next s') rfl hf (Z4l (Z5g I S)) S.kind S.names
  (thn (hi pins s σ H _ I h) fun v s1 h1=>thn h1 fun itv s2 h2=>?_)) (fun _ s' hq=>wpAny_pure (wpAny_pure hq)) fun _ _ e=>e)
 obtain⟨it,fp,tn,J,H2,e,I2,T,st2,f2,q⟩:=h2
 subst e
 refine X2m (Q:=fun x H1=>gName i x σ H1 D.nx) (RR:=fun acc C=>compPost (model X.prog X.w) X.A X.xe (some (assign (.Name x pos') X.env)) (fun _ s'=>SP X pins D .next s') acc C) hc S hg he I2 T st2 f2 q ?_
 intro acc C H' s' m' qq I' hn hC c1 c2 c3 c4
 show wpAny _ X.A (assign (.Name x pos') X.env (.ref acc)) _ _ _
 refine wpAny_assign_Name (Z6i (v:=.ref acc) I' hN hi' (.inl hx) rfl (fun s5 I5 ⟨a,hs5,ha⟩=>?_) (.inr hx))
 have hCa:C≠a:=by
  rcases ha with z | z
  ·rw[z];exact c2
  ·exact Ne.symm (c3 x a z)
 refine⟨m',hn.sameBut hs5 hCa,fun h' hs=>⟨σ.set i (some (.ref acc)),H',?_,qq⟩⟩
 exact I5.turnedNew (t':=s5.toks) (fun b o hb e=>hs.extBut b o hb e) hC c1 c2 c3 c4
end
theorem X5d {J:It}{n:Nat}{val:Nat->V}{te:TE}{fr:St}{H1:Hp}{acc:Addr}{Q:VK}(Pv:Nat->List V->Hp->Prop)(hn:n<=sizeLine)(h0:Pv 0 [] (upd H1 acc (.lst [])))
  (hgo:∀ i ys H,i<n->Pv i ys H->J.go i H/\∀ x H',J.yld i H x H'->H'=H/\x=val i) (hst:∀ ys H,Pv n ys H->J.stop n H)
  (hs:∀ i ys H (N:V->Hp->Prop),i<n->ys.length=i->Pv i ys H->(∀ y H5,H5 acc=some (.lst ys)->Pv (i+1) (ys++[y]) (upd H5 acc (.lst (ys++[y])))->N y H5)->te (some (val i)::fr) H N)
  (hd:∀ ys H,ys.length=n->Pv n ys H->Q (.ref acc) H) :
  LcW (J) (gName 0) te (none::fr) H1 acc Q:=by
 refine⟨fun i m ys σ2 H2=>m=n-i/\i<=n/\ys.length=i/\(∃ v,σ2=v::fr)/\Pv i ys H2,⟨n,by simp,Nat.zero_le _,rfl,⟨_,rfl⟩,h0⟩,?_⟩
 rintro i m ys σ2 H2 ⟨rfl,hi,hl,⟨v,rfl⟩,p⟩
 by_cases hlt:i<n
 ·obtain⟨go,yl⟩:=hgo i ys H2 hlt p
  refine .inr ⟨go,fun x H3 y3=>?_⟩
  obtain⟨e1,e2⟩:=yl x H3 y3
  subst e1 e2
  show te ((v::fr).set 0 (some (val i))) H3 _
  rw[List.set_cons_zero]
  refine hs i ys H3 _ hlt hl p fun y H5 a5 p5=>⟨a5,by omega,n-(i+1),by omega,rfl,hlt,by rw[List.length_append,hl];rfl,⟨_,rfl⟩,p5⟩
 ·have e:i=n:=by omega
  subst e
  exact .inl ⟨hst ys H2 p,hd ys H2 hl p⟩
theorem Z3s {lo:Int}{n:Nat}{te:TE}{fr:St}{H1:Hp}{acc:Addr}{Q:VK}(Pv:Nat->List V->Hp->Prop)(hn:n<=sizeLine)(h0:Pv 0 [] (upd H1 acc (.lst [])))
  (hs:∀ i ys H (N:V->Hp->Prop),i<n->ys.length=i->Pv i ys H->(∀ y H5,H5 acc=some (.lst ys)->Pv (i+1) (ys++[y]) (upd H5 acc (.lst (ys++[y])))->N y H5)->te (some (.int (lo+i))::fr) H N)
  (hd:∀ ys H,ys.length=n->Pv n ys H->Q (.ref acc) H) :
  LcW (Itr lo n) (gName 0) te (none::fr) H1 acc Q :=
 X5d (J:=Itr lo n) (val:=fun i=>.int (lo+i)) Pv hn h0 (fun i ys H hi p=>⟨hi,fun x H' y=>y⟩) (fun ys H p=>Nat.le_refl _) hs hd
theorem Z3h {K:PySem.W.Frag}{a:Addr}{xs:List V}{te:TE}{fr:St}{H1:Hp}{acc:Addr}{Q:VK}(Pv:Nat->List V->Hp->Prop)(hn:xs.length<=sizeLine)(h0:Pv 0 [] (upd H1 acc (.lst [])))
  (hl:∀ i ys H,Pv i ys H->SqL K H a xs)
  (hs:∀ i x ys H (N:V->Hp->Prop),xs[i]?=some x->ys.length=i->Pv i ys H->(∀ y H5,H5 acc=some (.lst ys)->Pv (i+1) (ys++[y]) (upd H5 acc (.lst (ys++[y])))->N y H5)->te (some x::fr) H N)
  (hd:∀ ys H,ys.length=xs.length->Pv xs.length ys H->Q (.ref acc) H) :
  LcW (Itl K a) (gName 0) te (none::fr) H1 acc Q :=
 X5d (J:=Itl K a) (n:=xs.length) (val:=fun i=>xs.getD i .non) Pv hn h0
  (fun i ys H hi p=>⟨⟨xs,xs[i],hl i ys H p,by simp[hi]⟩,fun x H' y=>⟨y.1,by
   have:=y.2 xs (hl i ys H p)
   rw[List.getD_eq_getElem?_getD,this];rfl⟩⟩)
  (fun ys H p=>⟨xs,hl _ ys H p,Nat.le_refl _⟩)
  (fun i ys H N hi hl' p k=>by
   have e:xs[i]?=some (xs.getD i .non):=by rw[List.getD_eq_getElem?_getD,List.getElem?_eq_getElem hi];rfl
   exact hs i _ ys H N e hl' p k) hd
end L2
namespace L2
open PySem PySem.Spec PyProof.Rows
structure Cal (P:Program) (w:World) (K:PySem.W.Frag) (mg:Str->Option Value) (base:Heap) (k:Nat) (x:Str) (ps:List Str) (sp:Sp):Prop where
 ex:∃ f fd,FnOk P w K mg base CX0 k f fd ps sp/\Binds K fd ps []/\PySem.W.keepIn K (.ref f)=true/\mg x=some (.ref f)
theorem Cal.mono {P:Program}{w:World}{K:PySem.W.Frag}{mg:Str->Option Value}{base:Heap}{j k:Nat}{x:Str}{ps:List Str}{sp:Sp}(c:Cal P w K mg base j x ps sp)(h:j<=k):Cal P w K mg base k x ps sp :=
 let ⟨f,fd,F,b,kp,m⟩:=c.ex
 ⟨f,fd,F.mono h,b,kp,m⟩
section
variable {X:Cx}{k:Nat}{x:Str}{ps:List Str}{sp:Sp}{p pos:Pos}{e:Expr}{es:List Expr}{t:TA}
theorem Z0k (c:Cal X.prog X.w X.K X.mg X.base k x ps sp)(hr:Room k X.A)(hg:Gl X x)(ha:PA X (e::es) t)(hdb:(x == ("__debug__":Str))=false:=by decide)
  (he:starEach (e::es) X.env=(false,eval e X.env)::starEach es X.env:=by rfl) (hpl:(backTo pos (starEach es X.env)).any (·.1)=false:=by rfl):PE X (.Call (.Name x p) (e::es) [] pos) (tCall sp [] E0 t):=by
 obtain⟨f,fd,F,b,kp,m⟩:=c.ex
 exact X3s F hr hg m kp b .nil pass0 ha hdb he hpl
end
structure FunAt (K:PySem.W.Frag) (x:Str) (st:Stmt) (dV:Value):Prop where
 ex:∃ (f:Addr) (oc:Value) (od:Option Addr) (kV doc pm:Value) (an:Option Addr) (cdv ct:Value) (osl:Array (Option Value)),
  K.lookup f=some ⟨oc,od,.func (PySem.W.fnOf x x (Z1s st) (Z1m st) (Z0i st) dV kV doc pm an cdv ct),osl⟩/\PySem.W.codeIn K cdv x=true/\PySem.W.keepIn K (.ref f)=true/\PySem.W.nsIn K mainGlobals x=some (some (.ref f))
theorem fat {K:PySem.W.Frag}{x:Str}{st:Stmt}{f:Addr}{oc:Value}{od an:Option Addr}{osl:Array (Option Value)}{dV kV doc pm cdv ct:Value}(a:PySem.W.nsIn K mainGlobals x=some (some (.ref f)))
  (l:K.lookup f=some ⟨oc,od,.func (PySem.W.fnOf x x (Z1s st) (Z1m st) (Z0i st) dV kV doc pm an cdv ct),osl⟩) (c:PySem.W.codeIn K cdv x=true) (k:PySem.W.keepIn K (.ref f)=true):FunAt K x st dV :=
 ⟨f,oc,od,kV,doc,pm,an,cdv,ct,osl,l,c,k,a⟩
def Z2v (K:PySem.W.Frag)(x:Str)(st:Stmt)(dV:Value)(ps:List Str):Prop:=∀ (kV doc pm:Value) (an:Option Addr) (cdv ct:Value),Binds K (PySem.W.fnOf x x (Z1s st) (Z1m st) (Z0i st) dV kV doc pm an cdv ct) ps []
theorem binds0 {K:PySem.W.Frag}{x:Str}{st:Stmt}{ps:List Str}
  (h:∀ (kV doc pm:Value) (an:Option Addr) (cdv ct:Value) (us:List Value),us.length=ps.length->bindArgs (PySem.W.fnOf x x (Z1s st) (Z1m st) (Z0i st) .none kV doc pm an cdv ct) ⟨us,[]⟩=pure (ps.zip us)):Z2v K x st .none ps :=
 fun kV doc pm an cdv ct=>.all (h kV doc pm an cdv ct)
theorem bnd0 {K:PySem.W.Frag}{nm:Str}{st:Stmt}(h:∀ (kV doc pm:Value) (an:Option Addr) (cdv ct:Value),bindArgs (PySem.W.fnOf nm nm (Z1s st) (Z1m st) (Z0i st) .none kV doc pm an cdv ct) ⟨[],[]⟩=pure []):Z2v K nm st .none []:=binds0 fun kV doc pm an cdv ct us hl=>by
 cases us with
 | nil=>exact h kV doc pm an cdv ct
 | cons=>cases hl
theorem bnd1 {K:PySem.W.Frag}{nm:Str}{st:Stmt}{x0:Str}(h:∀ (kV doc pm:Value) (an:Option Addr) (cdv ct:Value) (a0:Value),bindArgs (PySem.W.fnOf nm nm (Z1s st) (Z1m st) (Z0i st) .none kV doc pm an cdv ct) ⟨[a0],[]⟩=pure [(x0,a0)]):Z2v K nm st .none [x0]:=binds0 fun kV doc pm an cdv ct us hl=>by
 cases us with
 | nil=>cases hl
 | cons b0 t0 =>
  cases t0 with
  | nil=>exact h kV doc pm an cdv ct b0
  | cons=>cases hl
theorem bnd2 {K:PySem.W.Frag}{nm:Str}{st:Stmt}{x0 x1:Str}(h:∀ (kV doc pm:Value) (an:Option Addr) (cdv ct:Value) (a0 a1:Value),bindArgs (PySem.W.fnOf nm nm (Z1s st) (Z1m st) (Z0i st) .none kV doc pm an cdv ct) ⟨[a0,a1],[]⟩=pure [(x0,a0),(x1,a1)]):Z2v K nm st .none [x0,x1]:=binds0 fun kV doc pm an cdv ct us hl=>by
 cases us with
 | nil=>cases hl
 | cons b0 t0 =>
  cases t0 with
  | nil=>cases hl
  | cons b1 t1 =>
   cases t1 with
   | nil=>exact h kV doc pm an cdv ct b0 b1
   | cons=>cases hl
theorem bnd3 {K:PySem.W.Frag}{nm:Str}{st:Stmt}{x0 x1 x2:Str}(h:∀ (kV doc pm:Value) (an:Option Addr) (cdv ct:Value) (a0 a1 a2:Value),bindArgs (PySem.W.fnOf nm nm (Z1s st) (Z1m st) (Z0i st) .none kV doc pm an cdv ct) ⟨[a0,a1,a2],[]⟩=pure [(x0,a0),(x1,a1),(x2,a2)]):Z2v K nm st .none [x0,x1,x2]:=binds0 fun kV doc pm an cdv ct us hl=>by
 cases us with
 | nil=>cases hl
 | cons b0 t0 =>
  cases t0 with
  | nil=>cases hl
  | cons b1 t1 =>
   cases t1 with
   | nil=>cases hl
   | cons b2 t2 =>
    cases t2 with
    | nil=>exact h kV doc pm an cdv ct b0 b1 b2
    | cons=>cases hl
theorem bnd4 {K:PySem.W.Frag}{nm:Str}{st:Stmt}{x0 x1 x2 x3:Str}(h:∀ (kV doc pm:Value) (an:Option Addr) (cdv ct:Value) (a0 a1 a2 a3:Value),bindArgs (PySem.W.fnOf nm nm (Z1s st) (Z1m st) (Z0i st) .none kV doc pm an cdv ct) ⟨[a0,a1,a2,a3],[]⟩=pure [(x0,a0),(x1,a1),(x2,a2),(x3,a3)]):Z2v K nm st .none [x0,x1,x2,x3]:=binds0 fun kV doc pm an cdv ct us hl=>by
 cases us with
 | nil=>cases hl
 | cons b0 t0 =>
  cases t0 with
  | nil=>cases hl
  | cons b1 t1 =>
   cases t1 with
   | nil=>cases hl
   | cons b2 t2 =>
    cases t2 with
    | nil=>cases hl
    | cons b3 t3 =>
     cases t3 with
     | nil=>exact h kV doc pm an cdv ct b0 b1 b2 b3
     | cons=>cases hl
theorem bnd5 {K:PySem.W.Frag}{nm:Str}{st:Stmt}{x0 x1 x2 x3 x4:Str}(h:∀ (kV doc pm:Value) (an:Option Addr) (cdv ct:Value) (a0 a1 a2 a3 a4:Value),bindArgs (PySem.W.fnOf nm nm (Z1s st) (Z1m st) (Z0i st) .none kV doc pm an cdv ct) ⟨[a0,a1,a2,a3,a4],[]⟩=pure [(x0,a0),(x1,a1),(x2,a2),(x3,a3),(x4,a4)]):Z2v K nm st .none [x0,x1,x2,x3,x4]:=binds0 fun kV doc pm an cdv ct us hl=>by
 cases us with
 | nil=>cases hl
 | cons b0 t0 =>
  cases t0 with
  | nil=>cases hl
  | cons b1 t1 =>
   cases t1 with
   | nil=>cases hl
   | cons b2 t2 =>
    cases t2 with
    | nil=>cases hl
    | cons b3 t3 =>
     cases t3 with
     | nil=>cases hl
     | cons b4 t4 =>
      cases t4 with
      | nil=>exact h kV doc pm an cdv ct b0 b1 b2 b3 b4
      | cons=>cases hl
section
variable {P:Program}{w:World}{K:PySem.W.Frag}{mg:Str->Option Value}{base:Heap}
theorem FunAt.cal {x:Str}{st:Stmt}{dV:Value}{N ps:List Str}{k:Nat}{sp:Sp}(F:FunAt K x st dV){h:Heap}(X:K.In h)(G:h.Ns mainGlobals mg)(S:FnScope N ps (Z0i st))(bi:Z2v K x st dV ps)(len:∀ vs H Q E,sp vs H Q E->vs.length=ps.length)
  (hbody:∀ (f:Addr) (cdv:Value) (A:Around) (outer:List Env) (s:Shared) (H:Hp) (vs:List V) (Q:VK) (E:XK),Room k (A.deeper (envOfC x (Z0i st) s.heap.objs.size f cdv))->sp vs H Q E →
   ∃ t,PSs (cxOf CX0 P w K mg base N x (Z0i st) f cdv A outer s H E).nox (Z1m st) t/\t { nx:=fun _ H'=>Q .non H',rt:=Q } (start N vs) H):Cal P w K mg base (k+1) x ps sp:=by
 obtain⟨f,oc,od,kV,doc,pm,an,cdv,ct,osl,lk,hcd,kp,ns⟩:=F.ex
 refine⟨f,_,X7t lk hcd S len fun A outer s H vs Q E hr hsp=>?_,bi kV doc pm an cdv ct,kp,PySem.W.mg_of X G ns⟩
 obtain⟨t,h,q⟩:=hbody f cdv A outer s H vs Q E hr hsp
 exact⟨t,h.nox,q⟩
end
theorem cxK {P:Program}{w:World}{K:PySem.W.Frag}{mg:Str->Option Value}{base:Heap}{N:List Str}{x:Str}{sc:Scope}{f:Addr}{cdv:Value}{A:Around}{outer:List Env}{s:Shared}{H:Hp}{E:XK}:(cxOf CX0 P w K mg base N x sc f cdv A outer s H E).nox.K=K:=rfl
theorem Z0f {H:Hp}{p:Addr}(h:H p=none)(o:HO):Same H (upd H p o):=fun b u q=>by rw[Z0x (Z1g q h)];exact q
theorem Y7s (K:PySem.W.Frag):PySem.W.kitOne K (.type "int") (.type "int")=some true:=by unfold PySem.W.kitOne;rw[if_pos (by decide)]
theorem Y7t (K:PySem.W.Frag):PySem.W.kitOne K (.type "int") (.type "bool")=some false:=by with_unfolding_all rfl
theorem eqI {a b:Int}{A B:Prop}(h1:a=b->A)(h2:a≠b->B):if decide (V.int a=V.int b)=true then A else B:=by
 by_cases h:a=b
 ·subst h
  rw[decide_eq_true rfl]
  exact iteT (h1 rfl)
 ·rw[decide_eq_false fun e=>h (V.int.inj e)]
  exact iteF (h2 h)
theorem neI {a b:Int}{A B:Prop}(h1:a≠b->A)(h2:a=b->B):if (!decide (V.int a=V.int b))=true then A else B:=by
 by_cases h:a=b
 ·subst h
  rw[decide_eq_true rfl]
  exact iteF (h2 rfl)
 ·rw[decide_eq_false fun e=>h (V.int.inj e)]
  exact iteT (h1 h)
theorem decI {p:Prop}[Decidable p]{A B:Prop}(h1:p->A)(h2:¬ p->B):if decide p=true then A else B:=by
 by_cases h:p
 ·rw[decide_eq_true h];exact iteT (h1 h)
 ·rw[decide_eq_false h];exact iteF (h2 h)
theorem blI {c:Bool}{A B:Prop}(h1:c=true->A)(h2:c=false->B):if c=true then A else B:=by
 cases c
 ·exact iteF (h2 rfl)
 ·exact iteT (h1 rfl)
theorem nblI {c:Bool}{A B:Prop}(h1:c=false->A)(h2:c=true->B):if (!c)=true then A else B:=by
 cases c
 ·exact iteT (h1 rfl)
 ·exact iteF (h2 rfl)
def tCut (t u:TS):TS:=fun D σ H=>∃ Good:St->Hp->Prop,t { D with nx:=Good } σ H/\∀ σ' H',Good σ' H'->u D σ' H'
theorem Z1q {X:Cx}{st:Stmt}{rest:List Stmt}{t u:TS}(h1:PS X st t)(h2:PSs X rest u):PSs X (st::rest) (tCut t u):=by
 intro pins s σ H D I h
 obtain⟨Good,ht,hu⟩:=h
 refine wpAny_execs_cons (thn (h1 pins s σ H { D with nx:=Good } I ht) fun f s1 q=>?_)
 cases f with
 | next =>
  obtain⟨σ',H',I',q⟩:=q
  exact h2 pins s1 σ' H' D I' (hu σ' H' q)
 | ret v=>exact q
 | brk=>exact q
 | cont=>exact q
theorem Z0s {H H':Hp}{p:Addr}{o:HO}(h:Same H H')(hn:H p=none):Same H (upd H' p o):=fun b u q=>by rw[Z0x (Z1g q hn)];exact h b u q
end L2
namespace Zo
open PySem PySem.Spec PyProof.Rows
open Sem (wp)
def Stop (h:Heap)(e:Addr):Prop:=∃ o,h.get? e=some o/\o.cls=.type "StopIteration"
def Rest (S:List Addr)(h h':Heap):Prop:=∀ c o,c ∉ S->h.get? c=some o->h'.get? c=some o
theorem Rest.trans {S:List Addr}{h h1 h2:Heap}(a:Rest S h h1)(b:Rest S h1 h2):Rest S h h2:=fun c o n e=>b c o n (a c o n e)
theorem Rest.sub {S T:List Addr}{h h1:Heap}(a:Rest S h h1)(q:∀ c,c∈S->c∈T):Rest T h h1:=fun c o n e=>a c o (fun z=>n (q c z)) e
theorem Rest.ext {S:List Addr}{h h1:Heap}{b:Addr}(e:Heap.ExtBut b h h1)(q:b∈S):Rest S h h1:=fun c o n x=>e c o (fun z=>n (z ▸ q)) x
theorem Rest.but {S:List Addr}{h h1:Heap}{b:Addr}(e:Heap.SameBut b h h1)(q:b∈S):Rest S h h1:=Rest.ext e.extBut q
theorem Rest.new {S:List Addr}{h:Heap}(o:Obj):Rest S h (h.push o):=fun c u n x=>Heap.get?_push_of_some _ x
def Stays (S:List Addr)(G:Heap->Prop):Prop:=∀ h h',Rest S h h'->G h->G h'
def Told (it:Addr)(hp:Heap)(g:Array GenState)(d:Drawn)(tk:Nat)(os:OsState)(G:Heap->Prop)(ox:Option Value)(Q E:Value->Shared->Prop):Prop :=
 (∀ x h',ox=some x->G h'->Heap.SameBut it hp h'->Q x ⟨h',g,d,tk,os⟩) ∧
 (∀ e h',ox=none->Heap.ExtBut it hp h'->Stop h' e->E (.ref e) ⟨h',g,d,tk,os⟩)
def Pull (prog:Program)(w:World)(A:Around)(it:Addr)(G G':Heap->Prop)(ox:Option Value):Prop :=
 ∀ {Q E:Value->Shared->Prop}{hp:Heap}{g:Array GenState}{d:Drawn}{tk:Nat}{os:OsState},G hp->Told it hp g d tk os G' ox Q E →
  wpAny (model prog w) A (Builtin.SmallTypes.nextOf (.ref it)) Q E ⟨hp,g,d,tk,os⟩
section
variable {prog:Program}{w:World}{A:Around}{E:Value->Shared->Prop}{hp:Heap}{g:Array GenState}{d:Drawn}{tk:Nat}{os:OsState}
theorem Pull.behind {it:Addr}{G G':Heap->Prop}{ox:Option Value}(p:Pull prog w A it G G' ox)(hg:G hp){α:Type}{f:Value->Sem α}{k:Value->Sem Unit}{Q:α->Shared->Prop}
  (t:Told it hp g d tk os G' ox (fun x s'=>wpAny (model prog w) A (f x) Q (fun e s2=>wpAny (model prog w) A (k e) (fun _ s3=>E e s3) E s2) s') (fun e s2=>wpAny (model prog w) A (k e) (fun _ s3=>E e s3) E s2)) :
  wpAny (model prog w) A ((Builtin.SmallTypes.nextOf (.ref it) >>= f).onRaise k) Q E ⟨hp,g,d,tk,os⟩:=wpAny_onRaise (wpAny_bind (p hg t))
theorem freed {z I O e:Addr}{v:Value}{h:Heap}(gz:IsZip h z I O v)(st:Stop h e)(k:∀ h',Rest [z] h h'->Stop h' e->E (.ref e) ⟨h',g,d,tk,os⟩) :
  wpAny (model prog w) A (setField (.ref z) 0 .none) (fun _ s3=>E (.ref e) s3) E ⟨h,g,d,tk,os⟩:=by
 obtain⟨o,ho,hc⟩:=st
 have ne:e≠z:=by
  rintro rfl
  have q:=ho.symm.trans gz
  cases q
  exact absurd (Value.type.inj hc) (by decide)
 refine wpAny_setField gz rfl (by simp) (k _ (Rest.but (Heap.SameBut.update ..) (by simp)) ⟨o,(Heap.SameBut.update ..).extBut _ _ ne ho,hc⟩)
theorem step {z I O i j:Addr}{ox oy:Option Value}{a b:Value}{G1 G1' G2 G2':Heap->Prop}{R:PySem.Fin->Shared->Prop}
  (gz:IsZip hp z I O .none) (gI:IsPair hp I (.ref i) (.ref j)) (gO:IsPair hp O a b) (ne:O≠z/\O≠i/\O≠j/\i≠z/\j≠z)
  (p1:Pull prog w A i G1 G1' ox) (p2:Pull prog w A j G2 G2' oy) (a1:G1 hp) (a2:G2 hp)
  (k1:Stays [z,O,j] G1) (k2:Stays [z,O,i] G2) (k3:Stays [z,O,j] G1') (k4:Stays [z,O,i] G2')
  (go:∀ x y h',ox=some x->oy=some y->IsZip h' z I O (rawInt hp.objs.size)->IsPair h' O x y->IsPair h' hp.objs.size x y->G1' h'->G2' h'->Rest [z,O,i,j] hp h'->R (.done (.ret (.ref hp.objs.size))) ⟨h',g,d,tk,os⟩)
  (stop:∀ e h',ox=none∨oy=none->Rest [z,O,i,j] hp h'->Stop h' e->E (.ref e) ⟨h',g,d,tk,os⟩) :
  wpAny (model prog w) A (Builtin.«zip.__next__» ⟨[.ref z],[]⟩) R E ⟨hp,g,d,tk,os⟩:=by
 obtain⟨n1,n2,n3,n4,n5⟩:=ne
 have c0:(#[Value.none,.bool false,.bool false,.ref I,.ref O]:Array Value)[0]?=some .none:=rfl
 have c2:(#[Value.none,.bool false,.bool false,.ref I,.ref O]:Array Value)[2]?=some (.bool false):=rfl
 have c3:(#[Value.none,.bool false,.bool false,.ref I,.ref O]:Array Value)[3]?=some (.ref I):=rfl
 have c4:(#[Value.none,.bool false,.bool false,.ref I,.ref O]:Array Value)[4]?=some (.ref O):=rfl
 have z0:0<(#[Value.none,.bool false,.bool false,.ref I,.ref O]:Array Value).size:=by simp
 wp_walk using wpAny_field gz rfl c2,wpAny_field gz rfl c3,wpAny_seqItems gI rfl,wpAny_field gz rfl c0,wpAny_field gz rfl c4,wpAny_setField_rec gz z0
 intro h1 z1 r1
 have q1:Rest [z] hp h1:=.but r1 (by simp)
 wp_walk
 refine p1.behind (f:=fun x=>pure (some x)) (k:=fun _=>setField (.ref z) 0 .none) (k1 _ _ (q1.sub (by simp)) a1) ⟨fun x h2 e2 b2 r2=>?_,fun e h2 e2 r2 st=>?_⟩
 ·have O2:IsPair h2 O a b:=r2.extBut _ _ n2 (r1.extBut _ _ n1 gO)
  wp_walk using wpAny_seqItems O2 rfl,wpAny_updateSeq_pair O2
  intro h3 O3 r3
  wp_walk using wpAny_letGo
  have q3:Rest [z,O,i] hp h3:=((q1.sub (by simp)).trans (.but r2 (by simp))).trans (.but r3 (by simp))
  refine p2.behind (f:=fun x=>pure (some x)) (k:=fun _=>setField (.ref z) 0 .none) (k2 _ _ q3 a2) ⟨fun y h4 e4 b4 r4=>?_,fun e h4 e4 r4 st=>?_⟩
  ·have O4:IsPair h4 O x b:=r4.extBut _ _ n3 O3
   wp_walk using wpAny_seqItems O4 rfl,wpAny_updateSeq_pair O4
   intro h5 O5 r5
   have O5':IsPair h5 O x y:=O5
   have q5:Rest [z,O,i,j] hp h5:=((q3.sub (by simp)).trans (.but r4 (by simp))).trans (.but r5 (by simp))
   have z5:IsZip h5 z I O .ellipsis:=r5.extBut _ _ n1.symm (r4.extBut _ _ n5.symm (r3.extBut _ _ n1.symm (r2.extBut _ _ n4.symm z1)))
   have sz:h5.objs.size=hp.objs.size:=(((r5.1.trans r4.1).trans r3.1).trans r2.1).trans r1.1
   have lt:z<h5.objs.size:=Heap.lt_size z5
   have z6:IsZip (h5.push { cls:=.type "tuple",data:=.seq #[x,y].toList.toArray }) z I O .ellipsis:=Heap.get?_push_of_some _ z5
   wp_walk using wpAny_letGo,wpAny_seqItems O5' rfl
   have z8:=Heap.get?_update_self (Obj.mapFields fun v=>v.setIfInBounds 1 (Value.bool false)) (Heap.get?_update_self (Obj.mapFields fun v=>v.setIfInBounds 0 (rawInt h5.objs.size)) z6 rfl) rfl
   have r8:Rest [z] (h5.push { cls:=.type "tuple",data:=.seq #[x,y].toList.toArray }) _:=(Rest.but (b:=z) (Heap.SameBut.update (f:=Obj.mapFields fun v=>v.setIfInBounds 0 (rawInt h5.objs.size)) ..) (by simp)).trans (Rest.but (b:=z) (Heap.SameBut.update (f:=Obj.mapFields fun v=>v.setIfInBounds 1 (Value.bool false)) ..) (by simp))
   have q8:=(Rest.new _).trans r8
   have T8:=r8 h5.objs.size _ (by simp;exact Nat.ne_of_gt lt) (Heap.get?_push_size _ rfl)
   simp only[<-sz] at go
   exact go x y _ e2 e4 z8 (q8 _ _ (by simp[n1]) O5') T8 (k3 _ _ ((((Rest.but (S:=[z,O,j]) r3 (by simp)).trans (.but r4 (by simp))).trans (.but r5 (by simp))).trans (q8.sub (T:=[z,O,j]) (by simp))) b2)
    (k4 _ _ ((Rest.but (S:=[z,O,i]) r5 (by simp)).trans (q8.sub (T:=[z,O,i]) (by simp))) b4) (q5.trans (q8.sub (T:=[z,O,i,j]) (by simp)))
  ·exact freed (r4 _ _ n5.symm (r3.extBut _ _ n1.symm (r2.extBut _ _ n4.symm z1))) st fun h5 r5 st' =>
    stop e h5 (.inr e4) (((q3.sub (by simp)).trans (.ext r4 (by simp))).trans (r5.sub (by simp))) st'
 ·exact freed (r2 _ _ n4.symm z1) st fun h3 r3 st'=>stop e h3 (.inl e2) (((q1.sub (by simp)).trans (.ext r2 (by simp))).trans (r3.sub (by simp))) st'
end
end Zo
namespace Zn
open PySem PySem.Spec PyProof.Rows
open Sem (wp)
section
variable {prog:Program}{w:World}{A:Around}{E:Value->Shared->Prop}{hp:Heap}{g:Array GenState}{d:Drawn}{tk:Nat}{os:OsState}{it l:Addr}{i n:Nat}{its:Array Value}{oi ol:Obj}{R:PySem.Fin->Shared->Prop}
theorem Y9g (hh:its[i]?=none->A.handled=none)(gi:hp.get? it=some oi)(di:oi.data=.fields #[.ref l,.int i 0])(gl:hp.get? l=some ol)(dl:ol.data=.seq its n)
  (go:∀ x,its[i]?=some x->R (.done (.ret x)) ⟨hp.update it (Obj.mapFields (·.setIfInBounds 1 (rawInt (i+1)))),g,d,tk,os⟩)
  (stop:∀ h' e,its[i]?=none->Heap.ExtBut it hp h'->(∃ o,h'.get? e=some o/\o.cls=.type "StopIteration")->E (.ref e) ⟨h',g,d,tk,os⟩) :
  wpAny (model prog w) A (Builtin.«tuple_iterator.__next__» ⟨[.ref it],[]⟩) R E ⟨hp,g,d,tk,os⟩:=by
 have f0:(#[Value.ref l,.int i 0]:Array Value)[0]?=some (.ref l):=rfl
 have f1:(#[Value.ref l,.int i 0]:Array Value)[1]?=some (.int i 0):=rfl
 have z0:0<(#[Value.ref l,.int i 0]:Array Value).size:=by simp
 have z1:1<(#[Value.ref l,.int i 0]:Array Value).size:=by simp
 wp_walk using wpAny_field gi di f0,wpAny_field gi di f1,wpAny_seqItems gl dl
 rw[Int.toNat_natCast]
 cases hx:its[i]? with
 | some x =>
  dsimp only
  wp_walk using wpAny_setField gi di z1
  exact go x hx
 | none =>
  dsimp only
  have h0:=hh hx
  wp_walk using wpAny_setField gi di z0
  exact wpAny_raiseNew_none h0 (stop _ _ hx (((Heap.SameBut.update ..).extBut.push _).push _) ⟨_,Heap.get?_push_size _ rfl,rfl⟩)
end
end Zn
namespace Zp
open PySem PySem.Spec PyProof.Rows Zo
open Sem (wp)
def Dat (t:Bool)(h:Heap)(l:Addr)(xs:Array Value):Prop:=if t then h.IsTuple l xs else h.IsList l xs
def Itr (t:Bool)(h:Heap)(it l:Addr)(i:Nat):Prop:=if t then h.IsTupleIter it l i else h.IsListIter it l i
theorem Dat.at {t:Bool}{h h':Heap}{l:Addr}{xs:Array Value}(d:Dat t h l xs)(e:∀ o,h.get? l=some o->h'.get? l=some o):Dat t h' l xs:=by
 cases t<;>exact let ⟨o,q,r⟩:=d;⟨o,e o q,r⟩
theorem Itr.at {t:Bool}{h h':Heap}{it l:Addr}{i:Nat}(d:Itr t h it l i)(e:∀ o,h.get? it=some o->h'.get? it=some o):Itr t h' it l i:=by
 cases t<;>exact let ⟨o,q,r⟩:=d;⟨o,e o q,r⟩
theorem Itr.obj {t:Bool}{h:Heap}{it l:Addr}{i:Nat}(d:Itr t h it l i):∃ o,h.get? it=some o/\∀ v,o.data≠.cell v:=by
 cases t<;>exact let ⟨o,e,_,q⟩:=d;⟨o,e,fun v z=>by rw[q] at z;cases z⟩
theorem Dat.push {t:Bool}{h:Heap}{l:Addr}{xs:Array Value}(d:Dat t h l xs)(o:Obj):Dat t (h.push o) l xs:=d.at fun _ q=>Heap.get?_push_of_some _ q
def Stand (t:Bool)(it l:Addr)(k:Nat)(xs:Array Value)(h:Heap):Prop:=Itr t h it l k/\Dat t h l xs
theorem Stand.stays {t:Bool}{it l:Addr}{k:Nat}{xs:Array Value}{S:List Addr}(a:it ∉ S)(b:l ∉ S):Stays S (Stand t it l k xs):=fun h h' r d=>⟨d.1.at fun o q=>r _ o a q,d.2.at fun o q=>r _ o b q⟩
section
variable {prog:Program}{w:World}{A:Around}
theorem via {E:Value->Shared->Prop}{T id:String}{f:Builtin}{a:Addr}{s:Shared}{Q:Option Value->Shared->Prop}(sl:Slot T (Str.ofString "__next__") id)(en:entryFor table id=some f)(ar:argsOk id ⟨[.ref a],[]⟩)(ty:s.TypeIs (.ref a) T)
  (h:wpAny (model prog w) A.in1 (f ⟨[.ref a],[]⟩) (fun r s'=>∃ v,r=.done (.ret v)/\Q (some v) s') E s):wpAny (model prog w) A (callSpecial? (.ref a) (Str.ofString "__next__")) Q E s :=
 wpAny_callSpecial?_slot ty sl (wpAny_call_entry sl ty en h ar)
theorem pull {t:Bool}{it l:Addr}{k:Nat}{xs:Array Value}(hh:A.handled=none):Pull prog w A it (Stand t it l k xs) (Stand t it l (k+1) xs) xs[k]?:=by
 intro Q E hp g d tk os st td
 have nl:∀ {h'},Heap.SameBut it hp h'->l≠it->Dat t h' l xs:=fun r n=>st.2.at fun o q=>r.extBut _ _ n q
 cases t with
 | false =>
  obtain⟨a,b⟩:hp.IsListIter it l k/\hp.IsList l xs:=st
  have n:l≠it:=by
   rintro rfl
   obtain⟨o,q,_,r⟩:=a
   obtain⟨o',q',_,_,r'⟩:=b
   rw[q] at q';cases q';rw[r] at r';cases r'
  cases hx:xs[k]? with
  | some x=>exact wpAny_nextOf_list_item a b hx fun h' i r=>td.1 x h' hx ⟨i,nl r n⟩ r
  | none=>exact wpAny_nextOf_list_end hh a b hx fun h' e r s=>td.2 e h' hx r s
 | true =>
  obtain⟨a,b⟩:hp.IsTupleIter it l k/\hp.IsTuple l xs:=st
  have ty:(⟨hp,g,d,tk,os⟩:Shared).TypeIs (.ref it) "tuple_iterator":=a.typeIs
  obtain⟨o,q,c,r⟩:=a
  obtain⟨o',q',c',m,r'⟩:=b
  have n:l≠it:=by rintro rfl;rw[q] at q';cases q';rw[r] at r';cases r'
  unfold Builtin.SmallTypes.nextOf
  refine wpAny_bind (via F.slot_tuple_iterator_next F.entry_tuple_iterator_next (F.args_tuple_iterator_next_1 _) ty (Zn.Y9g (fun _=>hh) q r q' r' (fun x hx=>⟨x,rfl,wpAny_pure (td.1 x _ hx ?_ (Heap.SameBut.update ..))⟩) fun h' e hx ex s=>td.2 e h' hx ex s))
  refine⟨(⟨_,Heap.get?_update_self _ q (Obj.isFreed_of_fields (Obj.data_mapFields r _)),(Obj.cls_mapFields ..).trans c,?_⟩:Heap.IsTupleIter _ it l (k+1)),nl (Heap.SameBut.update ..) n⟩
  rw[Obj.data_mapFields r]
  rfl
variable {E:Value->Shared->Prop}
theorem Y3l {t1 t2:Bool}{z I O i j l m:Addr}{k1 k2:Nat}{xs ys:Array Value}{a b:Value}{Q:Option Value->Shared->Prop}{s:Shared}(hh:A.handled=none)(D:ZipApart z I O i j l m)
  (gz:IsZip s.heap z I O .none) (gI:IsPair s.heap I (.ref i) (.ref j)) (gO:IsPair s.heap O a b) (d1:Stand t1 i l k1 xs s.heap) (d2:Stand t2 j m k2 ys s.heap)
  (go:∀ x y h',xs[k1]?=some x->ys[k2]?=some y->IsZip h' z I O (rawInt s.heap.objs.size)->IsPair h' O x y->IsPair h' s.heap.objs.size x y->Stand t1 i l (k1+1) xs h'->Stand t2 j m (k2+1) ys h' →
   Rest [z,O,i,j] s.heap h'->Q (some (.ref s.heap.objs.size)) ⟨h',s.gens,s.drawn,s.toks,s.os⟩)
  (stop:∀ h',xs[k1]?=none∨ys[k2]?=none->Rest [z,O,i,j] s.heap h'->Q none ⟨h',s.gens,s.drawn,s.toks,s.os⟩):wpAny (model prog w) A (pyNext (.ref z)) Q E s:=by
 obtain⟨hp,g,d,tk,os⟩:=s
 unfold pyNext
 refine wpAny_bind (wpAny_attempt (via F.slot_zip_next F.entry_zip_next (F.args_zip_next_1 _) ⟨_,gz,rfl⟩ (step gz gI gO ⟨D.TOz,D.TOi1,D.TOi2,D.i1z,D.i2z⟩ (pull (A:=A.in1) hh) (pull (A:=A.in1) hh) d1 d2 ?_ ?_ ?_ ?_ ?_ ?_)))
 ·exact Stand.stays (by simp[D.i1z,D.TOi1.symm,D.i12]) (by simp[D.l1z,D.l1TO,D.l1i2])
 ·exact Stand.stays (by simp[D.i2z,D.TOi2.symm,D.i12.symm]) (by simp[D.l2z,D.l2TO,D.l2i1])
 ·exact Stand.stays (by simp[D.i1z,D.TOi1.symm,D.i12]) (by simp[D.l1z,D.l1TO,D.l1i2])
 ·exact Stand.stays (by simp[D.i2z,D.TOi2.symm,D.i12.symm]) (by simp[D.l2z,D.l2TO,D.l2i1])
 ·exact fun x y h' e1 e2 b1 b2 b3 b4 b5 b6=>⟨_,rfl,wpAny_pure (go x y h' e1 e2 b1 b2 b3 b4 b5 b6)⟩
 ·rintro e h' n r ⟨o,q,c⟩
  exact wpAny_bind (wpAny_isInstance (b:=true) ⟨o,q,c⟩ isSubtype_stop (wpAny_pure (stop h' n r)))
end
abbrev itObj (t:Bool)(l:Addr):Obj:={ cls:=.type (if t then "tuple_iterator" else "list_iterator"),data:=.fields #[.ref l,.int 0 0] }
theorem Y7w {t:Bool}{h:Heap}{it l:Addr}(e:h.get? it=some (itObj t l)):Itr t h it l 0:=by
 cases t<;>exact⟨_,e,rfl,rfl⟩
theorem push5 {h:Heap}{o0 o1 o2 o3 o4:Obj}(f0:o0.isFreed=false)(f1:o1.isFreed=false)(f2:o2.isFreed=false)(f3:o3.isFreed=false)(f4:o4.isFreed=false){H:Heap}(e:H=((((h.push o0).push o1).push o2).push o3).push o4) :
  H.get? h.objs.size=some o0/\H.get? (h.objs.size+1)=some o1/\H.get? (h.objs.size+2)=some o2/\H.get? (h.objs.size+3)=some o3/\H.get? (h.objs.size+4)=some o4/\∀ c o,h.get? c=some o->H.get? c=some o:=by
 subst e
 have w:∀ {h:Heap}{a:Addr}{o o':Obj},h.get? a=some o->(h.push o').get? a=some o:=fun q=>Heap.get?_push_of_some _ q
 have s1:(h.push o0).objs.size=h.objs.size+1:=Heap.size_push ..
 have s2:((h.push o0).push o1).objs.size=h.objs.size+2:=by rw[Heap.size_push,s1]
 have s3:(((h.push o0).push o1).push o2).objs.size=h.objs.size+3:=by rw[Heap.size_push,s2]
 have s4:((((h.push o0).push o1).push o2).push o3).objs.size=h.objs.size+4:=by rw[Heap.size_push,s3]
 refine⟨w (w (w (w (Heap.get?_push_size _ f0)))),?_,?_,?_,?_,fun c o q=>w (w (w (w (w q))))⟩
 ·rw[<-s1];exact w (w (w (Heap.get?_push_size _ f1)))
 ·rw[<-s2];exact w (w (Heap.get?_push_size _ f2))
 ·rw[<-s3];exact w (Heap.get?_push_size _ f3)
 ·rw[<-s4];exact Heap.get?_push_size _ f4
structure New (t1 t2:Bool) (h h':Heap) (l m:Addr):Prop where
 z:IsZip h' (h.objs.size+4) (h.objs.size+2) (h.objs.size+3) .none
 I:IsPair h' (h.objs.size+2) (.ref h.objs.size) (.ref (h.objs.size+1))
 O:IsPair h' (h.objs.size+3) .none .none
 i:Itr t1 h' h.objs.size l 0
 j:Itr t2 h' (h.objs.size+1) m 0
 k:Rest [] h h'
section
variable {prog:Program}{w:World}{A:Around}{E:Value->Shared->Prop}{s:Shared}
theorem Y3t {t:Bool}{l:Addr}{xs:Array Value}{Q:Value->Shared->Prop}(hl:Dat t s.heap l xs)(h:Q (.ref s.heap.objs.size) { s with heap:=s.heap.push (itObj t l) }):wpAny (model prog w) A (pyIter (.ref l)) Q E s:=by
 cases t
 ·exact wpAny_pyIter_list (show s.heap.IsList l xs from hl) h
 ·exact wpAny_pyIter_tuple (show s.heap.IsTuple l xs from hl) h
theorem Y7h (t1 t2:Bool)(l m:Addr)(xs ys:Array Value) :
  Meets (Builtin.«zip.__new__» ⟨[.type "zip",.ref l,.ref m],[]⟩) (fun _ R s=>Dat t1 s.heap l xs/\Dat t2 s.heap m ys ∧
   ∀ h',New t1 t2 s.heap h' l m->R (.ok (.ret (.ref (s.heap.objs.size+4)))) { s with heap:=h' }) :=
 .of_wp fun prog w A R s h=>by
  rcases s with ⟨hp,g,d,tk,os⟩
  rcases h with ⟨b1,b2,h⟩
  have hsub:=sub_zip
  have L1:Dat t1 (Shared.heap ⟨hp,g,d,tk,os⟩) l xs:=b1
  have L2:Dat t2 (Shared.heap ⟨hp.push (itObj t1 l),g,d,tk,os⟩) m ys:=b2.push _
  wp_walk using Y3t L1,Y3t L2
  have key:∀ n1 n2 n3 n4,n1=hp.objs.size+1->n2=hp.objs.size+2->n3=hp.objs.size+3->n4=hp.objs.size+4 →
    R (.ok (.ret (.ref n4))) ⟨((((hp.push (itObj t1 l)).push (itObj t2 m)).push { cls:=.type "tuple",data:=.seq #[.ref hp.objs.size,.ref n1] }).push { cls:=.type "tuple",data:=.seq #[.none,.none] }).push
     { cls:=.type "zip",data:=.fields #[.none,.bool false,.bool false,.ref n2,.ref n3] },g,d,tk,os⟩:=by
   rintro _ _ _ _ rfl rfl rfl rfl
   obtain⟨a0,a1,a2,a3,a4,a5⟩:=push5 (h:=hp) (o0:=itObj t1 l) (o1:=itObj t2 m) (o2:={ cls:=.type "tuple",data:=.seq #[.ref hp.objs.size,.ref (hp.objs.size+1)] }) (o3:={ cls:=.type "tuple",data:=.seq #[.none,.none] })
    (o4:={ cls:=.type "zip",data:=.fields #[.none,.bool false,.bool false,.ref (hp.objs.size+2),.ref (hp.objs.size+3)] }) rfl rfl rfl rfl rfl rfl
   exact h _ ⟨a4,a2,a3,Y7w a0,Y7w a1,fun c o _ q=>a5 c o q⟩
  exact⟨_,rfl,key _ _ _ _ (by simp only[Heap.size_push]) (by simp only[Heap.size_push]) (by simp only[Heap.size_push]) (by simp only[Heap.size_push])⟩
theorem X1n {t1 t2:Bool}{l m:Addr}{xs ys:Array Value}{Q:Value->Shared->Prop}(b1:Dat t1 s.heap l xs)(b2:Dat t2 s.heap m ys)
  (k:∀ h',New t1 t2 s.heap h' l m->Q (.ref (s.heap.objs.size+4)) { s with heap:=h' }):wpAny (model prog w) A (call (.type "zip") [.ref l,.ref m]) Q E s :=
 callType_new F.called_zip (by decide) (F.typeCall_zip_2 _ _) (F.newCall_zip_2 _ _) (fun o=>F.args_object_init_3 o _ _) F.entry_zip_new (Y7h t1 t2 l m xs ys) ⟨b1,b2,fun h' n=>⟨⟨_,n.z,rfl⟩,k h' n⟩⟩
end
end Zp
namespace L2
open PySem PySem.Spec PyProof.Rows
section
variable {X:Cx}{pins:List (Addr × Obj)}{σ:St}{H:Hp}{s:Shared}{h':Heap}
theorem Inv.turnedL {t':Nat}{ch:List Addr}(I:Inv X pins σ H s)(k:∀ b o,b ∉ ch->s.heap.get? b=some o->h'.get? b=some o)(hf:∀ b∈ch,FpOk X pins H b):Inv X pins σ H { s with heap:=h',toks:=t' }:=by
 have nit:∀ b u,H b=some u->b ∉ ch:=fun b u e z=>by rw[(hf b z).1] at e;cases e
 refine I.step (g':=s.gens) (d':=s.drawn) (ch:=ch) (fun b hb=>⟨(hf b hb).2.2.2.1,(hf b hb).2.1,(hf b hb).2.2.2.2.1,(hf b hb).2.2.2.2.2⟩) (fun b o _ _ hc e _=>k b o hc e) (fun b o _ _ hc e _=>⟨o.slots,k b o hc e⟩) (fun _ _ _ _ n=>n)
  (fun b o hc e=>⟨o,k b o hc e⟩) (fun _ _ e=>e) (fun _ _ _ e=>e) (fun b ps e=>⟨#[],by rw[e];simp⟩) (fun m hm=>?_) (fun b u e=>?_) I.bare
 ·obtain⟨o,es,ep,ho,r⟩:=hm
  exact⟨o,es,ep,k _ o (fun z=>(hf _ z).2.1 rfl) ho,r⟩
 ·refine(I.hok b u e).stay (fun c v hc q=>k c v ?_ q) (fun _ q=>q) fun _ _ q=>q
  rcases hc with z | z
  ·rw[z];exact nit b u e
  ·exact nit c _ z
theorem Inv.turnedT {t':Nat}{ch:List Addr}{T:Addr}{xs:List V}{its:List Value}(I:Inv X pins σ H s)(k:∀ b o,b ∉ ch->s.heap.get? b=some o->h'.get? b=some o)(hf:∀ b∈ch,FpOk X pins H b)(hT:s.heap.objs.size<=T)(hv:Vals xs its)(hz:xs.length<=sizeLine)(ht:IsTup h' T its.toArray) :
  Inv X pins σ (upd H T (.tup xs)) { s with heap:=h',toks:=t' }:=by
 have nit:∀ b u,H b=some u->b ∉ ch:=fun b u e z=>by rw[(hf b z).1] at e;cases e
 have hTn:H T=none:=I.hok.fresh hT
 have neT:∀ b o,s.heap.get? b=some o->b≠T:=fun b o e=>Nat.ne_of_lt (Nat.lt_of_lt_of_le (Heap.lt_size e) hT)
 have neH:∀ b u,H b=some u->b≠T:=fun b u e z=>by rw[z,hTn] at e;cases e
 refine I.step (g':=s.gens) (d':=s.drawn) (ch:=ch) (fun b hb=>⟨(hf b hb).2.2.2.1,(hf b hb).2.1,(hf b hb).2.2.2.2.1,(hf b hb).2.2.2.2.2⟩) (fun b o _ _ hc e _=>k b o hc e) (fun b o _ _ hc e _=>⟨o.slots,k b o hc e⟩)
  (fun b o _ e n=>by rw[Z0x (neT b o e)];exact n)
  (fun b o hc e=>⟨o,k b o hc e⟩) (fun b ys e=>by rw[Z0x (neH b _ e)];exact e) (fun b o u e=>by rw[Z0x (neH b _ e)];exact e) (fun b ps e=>⟨#[],by rw[Z0x (neH b _ e),e];simp⟩) (fun m hm=>?_) (fun b u e=>?_) I.bare
 ·obtain⟨o,es,ep,ho,r⟩:=hm
  exact⟨o,es,ep,k _ o (fun z=>(hf _ z).2.1 rfl) ho,r⟩
 ·by_cases hb:b=T
  ·subst hb
   rw[Z0c] at e
   cases e
   exact⟨hz,its,hv,ht⟩
  ·rw[Z0x hb] at e
   refine(I.hok b u e).stay (fun c v hc q=>k c v ?_ q) (fun c q=>by rw[Z0x (neH c _ q)];exact q) fun c ys q=>by rw[Z0x (neH c _ q)];exact q
   rcases hc with z | z
   ·rw[z];exact nit b u e
   ·exact nit c _ z
end
def SqX (t:Bool)(K:PySem.W.Frag)(H:Hp)(a:Addr)(xs:List V):Prop:=if t then SqT K H a xs else SqL K H a xs
theorem Inv.sqx {X:Cx}{pins:List (Addr × Obj)}{σ:St}{H:Hp}{s:Shared}{t:Bool}{a:Addr}{xs:List V}(I:Inv X pins σ H s)(h:SqX t X.K H a xs):∃ its:List Value,Vals xs its/\Zp.Dat t s.heap a its.toArray/\xs.length<=sizeLine:=by
 cases t
 ·obtain⟨its,v,p,z⟩:=I.list (show SqL X.K H a xs from h)
  exact⟨its,v,p.isList,z⟩
 ·obtain⟨its,v,p,z⟩:=I.tuple (show SqT X.K H a xs from h)
  exact⟨its,v,p,z⟩
theorem Inv.sqx_inj {X:Cx}{pins:List (Addr × Obj)}{σ:St}{H:Hp}{s:Shared}{t:Bool}{a:Addr}{xs ys:List V}(I:Inv X pins σ H s)(h:SqX t X.K H a xs)(h':SqX t X.K H a ys):xs=ys:=by
 cases t
 ·exact I.list_inj (show SqL X.K H a xs from h) h'
 ·exact I.tuple_inj (show SqT X.K H a xs from h) h'
def Itz (t1 t2:Bool)(K:PySem.W.Frag)(l1 l2:Addr):It :=
 ⟨fun i H=>∃ xs x ys y,SqX t1 K H l1 xs/\xs[i]?=some x/\SqX t2 K H l2 ys/\ys[i]?=some y,
 fun i H v H'=>∃ T x y,v=.ref T/\H T=none/\H'=upd H T (.tup [x,y])/\(∀ xs,SqX t1 K H l1 xs->xs[i]?=some x)/\∀ ys,SqX t2 K H l2 ys->ys[i]?=some y,
 fun i H=>∃ xs ys,SqX t1 K H l1 xs/\SqX t2 K H l2 ys/\(xs.length<=i∨ys.length<=i)⟩
theorem Y9f {P:Program}{w:World}{K:PySem.W.Frag}{es:List Expr}{kk:Nat}{tp:Pos}{t1 t2:Bool}{z TI TO i1 i2 l1 l2:Addr}(D:ZipApart z TI TO i1 i2 l1 l2) :
  Turn P w K (.Tuple es kk tp) (Itz t1 t2 K l1 l2) [z,TI,TO,i1,i2] z (fun i h=>IsZip h z TI TO .none/\IsPair h TI (.ref i1) (.ref i2)/\(∃ a b,IsPair h TO a b)/\Zp.Itr t1 h i1 l1 i/\Zp.Itr t2 h i2 l2 i) where
 mem:=by simp
 obj:=fun i h st b hb=>by
  obtain⟨a1,a2,⟨x,y,a3⟩,a4,a5⟩:=st
  simp only[List.mem_cons,List.not_mem_nil,or_false] at hb
  rcases hb with rfl | rfl | rfl | rfl | rfl
  ·exact⟨_,a1,fun v q=>by have q':Data.fields _=Data.cell v:=q;cases q'⟩
  ·exact⟨_,a2,fun v q=>by have q':Data.seq _ _=Data.cell v:=q;cases q'⟩
  ·exact⟨_,a3,fun v q=>by have q':Data.seq _ _=Data.cell v:=q;cases q'⟩
  ·exact a4.obj
  ·exact a5.obj
 keep:=fun i h h' st k=>by
  obtain⟨a1,a2,⟨x,y,a3⟩,a4,a5⟩:=st
  exact⟨k z (by simp) _ a1,k TI (by simp) _ a2,⟨x,y,k TO (by simp) _ a3⟩,a4.at fun o e=>k i1 (by simp) o e,a5.at fun o e=>k i2 (by simp) o e⟩
 item:=by
  intro X hP hw hK hc i pins s σ H E I hf st hg
  subst hP hw hK
  obtain⟨xs,x,ys,y,q1,hx,q2,hy⟩:=hg
  obtain⟨a1,a2,⟨u1,u2,a3⟩,a4,a5⟩:=st
  obtain⟨its,rv,dt,hz⟩:=I.sqx q1
  obtain⟨its',rv',dt',hz'⟩:=I.sqx q2
  obtain⟨vx,hvx,rx⟩:=rv.get hx
  obtain⟨vy,hvy,ry⟩:=rv'.get hy
  refine Zp.Y3l (I.ok.hd hc) D a1 a2 a3 (d1:=⟨a4,dt⟩) (d2:=⟨a5,dt'⟩) (fun wx wy h' f1 f2 b1 b2 b5 b3 b4 bk=>?_) (fun h' n _=>?_)
  rotate_left
  ·exfalso
   rcases n with n | n
   ·rw[show its.toArray[i]?=some vx by simpa using hvx] at n;cases n
   ·rw[show its'.toArray[i]?=some vy by simpa using hvy] at n;cases n
  obtain rfl:vx=wx:=Option.some.inj ((show its.toArray[i]?=some vx by simpa using hvx).symm.trans f1)
  obtain rfl:vy=wy:=Option.some.inj ((show its'.toArray[i]?=some vy by simpa using hvy).symm.trans f2)
  refine⟨_,rfl,wpAny_letOwnedTupleGo_zip b1 fun h2 c1 sb=>?_⟩
  have zT:s.heap.objs.size≠z:=Nat.ne_of_gt (Heap.lt_size a1)
  have k2:∀ b o,b ∉ [z,TI,TO,i1,i2]->s.heap.get? b=some o->h2.get? b=some o:=fun b o hb e=>by
   simp only[List.mem_cons,List.not_mem_nil,or_false,not_or] at hb
   exact sb.extBut b o hb.1 (bk b o (by simp[hb]) e)
  have hT:IsTup h2 s.heap.objs.size ([vx,vy]:List Value).toArray:=⟨_,sb.extBut _ _ zT b5,rfl,_,rfl⟩
  refine⟨.ref s.heap.objs.size,upd H s.heap.objs.size (.tup [x,y]),I.turnedT (t':=s.toks) k2 hf (Nat.le_refl _) (.cons rx (.cons ry .nil)) (by show 2<=sizeLine;decide) hT,rfl,⟨_,x,y,rfl,I.hok.fresh (Nat.le_refl _),rfl,fun xs' h1=>?_,fun ys' h1=>?_⟩,⟨c1,?_,⟨vx,vy,?_⟩,?_,?_⟩,fun b hb=>?_⟩
  ·rw[I.sqx_inj h1 q1];exact hx
  ·rw[I.sqx_inj h1 q2];exact hy
  ·exact sb.extBut _ _ D.TIz (bk _ _ (by simp[D.TIz,D.TITO,D.TIi1,D.TIi2]) a2)
  ·exact sb.extBut _ _ D.TOz b2
  ·exact b3.1.at fun o q=>sb.extBut _ _ D.i1z q
  ·exact b4.1.at fun o q=>sb.extBut _ _ D.i2z q
  ·have hlt:b<s.heap.objs.size:=by
    simp only[List.mem_cons,List.not_mem_nil,or_false] at hb
    rcases hb with rfl | rfl | rfl | rfl | rfl
    ·exact Heap.lt_size a1
    ·exact Heap.lt_size a2
    ·exact Heap.lt_size a3
    ·obtain⟨o,e,_⟩:=a4.obj;exact Heap.lt_size e
    ·obtain⟨o,e,_⟩:=a5.obj;exact Heap.lt_size e
   rw[Z0x (Nat.ne_of_lt hlt)]
   exact(hf b hb).1
 done:=by
  intro X hP hw hK hc i pins s σ H E I hf st hg
  subst hP hw hK
  obtain⟨xs,ys,q1,q2,hend⟩:=hg
  obtain⟨a1,a2,⟨u1,u2,a3⟩,a4,a5⟩:=st
  obtain⟨its,rv,dt,hz⟩:=I.sqx q1
  obtain⟨its',rv',dt',hz'⟩:=I.sqx q2
  have e1:=rv.length
  have e2:=rv'.length
  have hend':its.toArray[i]?=none∨its'.toArray[i]?=none:=by
   rcases hend with h | h
   ·left;simp;omega
   ·right;simp;omega
  refine Zp.Y3l (I.ok.hd hc) D a1 a2 a3 (d1:=⟨a4,dt⟩) (d2:=⟨a5,dt'⟩) (fun wx wy h' f1 f2 b1 b2 b5 b3 b4 bk=>?_) (fun h' n bk=>⟨rfl,I.turnedL (t':=s.toks) (fun b o hb e=>?_) hf⟩)
  ·exfalso
   rcases hend' with n | n
   ·rw[f1] at n;cases n
   ·rw[f2] at n;cases n
  ·simp only[List.mem_cons,List.not_mem_nil,or_false,not_or] at hb
   exact bk b o (by simp[hb]) e
 self:=fun _ _ _ _ _ st h=>wpAny_pyIter_zip st.1 h
section
variable {X:Cx}{es:List Expr}{kk:Nat}{tp:Pos}
def iZip (t1 t2:Bool)(K:PySem.W.Frag)(ta:TA):TI:=fun σ H R=>ta σ H fun vs H1=>∃ l1 l2 xs ys,vs=[.ref l1,.ref l2]/\SqX t1 K H1 l1 xs/\SqX t2 K H1 l2 ys/\R (Itz t1 t2 K l1 l2) H1
theorem X6t (t1 t2:Bool){a b:Expr}{ta:TA}{p pos:Pos}(hg:Gl X "zip")(hm:X.mg "zip"=none)(ha:PA X [a,b] ta)(hs:starEach [a,b] X.env=[(false,eval a X.env),(false,eval b X.env)]:=by rfl)(hs2:starEach [b] X.env=[(false,eval b X.env)]:=by rfl) :
  PI X (.Tuple es kk tp) (.Call (.Name "zip" p) [a,b] [] pos) (iZip t1 t2 X.K ta):=by
 intro pins s σ H R I h
 refine Call_ (Z6x I hg hm boot_zip (PyProof.Rows.callWith_type1 (thn (ha pos pins s σ H _ I h) fun us s1 ⟨vs,H1,I1,r1,q1⟩=>?_) (by rw[hs,hs2]) (by rw[hs2];rfl)))
 obtain⟨l1,l2,xs,ys,e,h1,h2,q⟩:=q1
 subst e
 cases r1 with
 | cons r rr =>
  cases rr with
  | cons r' rr =>
   cases rr
   cases r
   cases r'
   obtain⟨its,rv,dt,hz⟩:=I1.sqx h1
   obtain⟨its',rv',dt',hz'⟩:=I1.sqx h2
   refine Zp.X1n dt dt' fun h' ⟨z1,z2,z3,z4,z5,zk'⟩=>?_
   have zk:∀ c o,s1.heap.get? c=some o->h'.get? c=some o:=fun c o q=>zk' c o (by simp) q
   have I2:Inv X pins σ H1 { s1 with heap:=h' }:=I1.kept (t':=s1.toks) zk
   have lt1:l1<s1.heap.objs.size:=by
    cases t1
    ·obtain⟨o,e,_⟩:=(show s1.heap.IsList l1 _ from dt);exact Heap.lt_size e
    ·obtain⟨o,e,_⟩:=(show s1.heap.IsTuple l1 _ from dt);exact Heap.lt_size e
   have lt2:l2<s1.heap.objs.size:=by
    cases t2
    ·obtain⟨o,e,_⟩:=(show s1.heap.IsList l2 _ from dt');exact Heap.lt_size e
    ·obtain⟨o,e,_⟩:=(show s1.heap.IsTuple l2 _ from dt');exact Heap.lt_size e
   have D:ZipApart (s1.heap.objs.size+4) (s1.heap.objs.size+2) (s1.heap.objs.size+3) s1.heap.objs.size (s1.heap.objs.size+1) l1 l2:=zipApart_new lt1 lt2
   refine wpAny_pyIter_zip z1 ⟨_,_,_,_,H1,rfl,I2,Y9f D,⟨z1,z2,⟨_,_,z3⟩,z4,z5⟩,fun b hb=>?_,q⟩
   have hge:s1.heap.objs.size<=b:=by
    simp only[List.mem_cons,List.not_mem_nil,or_false] at hb
    rcases hb with rfl | rfl | rfl | rfl | rfl
    ·exact Nat.le_add_right _ _
    ·exact Nat.le_add_right _ _
    ·exact Nat.le_add_right _ _
    ·exact Nat.le_refl _
    ·exact Nat.le_add_right _ _
   exact I1.fpOk hge (I1.hok.fresh hge)
end
theorem X7f {t1 t2:Bool}{K:PySem.W.Frag}{l1 l2:Addr}{g:TG}{xs ys:List V}{te:TE}{fr:St}{H1:Hp}{acc:Addr}{Q:VK}(Pv:Nat->List V->Hp->Prop)(hxy:xs.length=ys.length)(hn:xs.length<=sizeLine)(h0:Pv 0 [] (upd H1 acc (.lst [])))
  (hg:∀ {a:Addr}{x y v1 v2:V}{w1 w2:Option V}{H:Hp}{Q:St->Hp->Prop},H a=some (.tup [x,y])->Q (some x::some y::fr) H->g (.ref a) (w1::w2::fr) H Q)
  (hl:∀ i zs H,Pv i zs H->SqX t1 K H l1 xs/\SqX t2 K H l2 ys)
  (hs:∀ i x y zs H T (N:V->Hp->Prop),xs[i]?=some x->ys[i]?=some y->zs.length=i->Pv i zs H->H T=none->(∀ z H5,H5 acc=some (.lst zs)->Pv (i+1) (zs++[z]) (upd H5 acc (.lst (zs++[z])))->N z H5)->te (some x::some y::fr) (upd H T (.tup [x,y])) N)
  (hd:∀ zs H,zs.length=xs.length->Pv xs.length zs H->Q (.ref acc) H):LcW (Itz t1 t2 K l1 l2) g te (none::none::fr) H1 acc Q:=by
 refine⟨fun i m zs σ2 H2=>m=xs.length-i/\i<=xs.length/\zs.length=i/\(∃ v w,σ2=v::w::fr)/\Pv i zs H2,⟨xs.length,by simp,Nat.zero_le _,rfl,⟨_,_,rfl⟩,h0⟩,?_⟩
 rintro i m zs σ2 H2 ⟨rfl,hi,hl2,⟨v,w,rfl⟩,p⟩
 obtain⟨s1,s2⟩:=hl i zs H2 p
 by_cases hlt:i<xs.length
 ·have e1:xs[i]?=some xs[i]:=by simp[hlt]
  have e2:ys[i]?=some (ys[i]'(by omega)):=by simp[show i<ys.length by omega]
  refine .inr ⟨⟨xs,_,ys,_,s1,e1,s2,e2⟩,fun u H3 y3=>?_⟩
  obtain⟨T,x,y,rfl,hT,rfl,h1,h2⟩:=y3
  have hx:=h1 xs s1
  have hy:=h2 ys s2
  refine hg (v1:=x) (v2:=y) (Z0c) ?_
  refine hs i x y zs H2 T _ hx hy hl2 p hT fun z H5 a5 p5=>⟨a5,by omega,xs.length-(i+1),by omega,rfl,hlt,by rw[List.length_append,hl2];rfl,⟨_,_,rfl⟩,p5⟩
 ·have e:i=xs.length:=by omega
  subst e
  exact .inl ⟨⟨xs,ys,s1,s2,.inl (Nat.le_refl _)⟩,hd zs H2 hl2 p⟩
end L2
namespace Bt
open PySem PyProof.Rows
theorem Y1l (x y:Nat):(x&&&y)=2*((x / 2)&&&(y / 2))+(x%2)*(y%2):=by
 have h1:(x&&&y) / 2=(x / 2)&&&(y / 2):=Nat.and_div_two
 have h2:(x&&&y)%2=1 ↔ x%2=1/\y%2=1:=Nat.and_mod_two_eq_one
 rcases Nat.mod_two_eq_zero_or_one x with a | a<;>rcases Nat.mod_two_eq_zero_or_one y with b | b<;>rw[a,b] at h2 ⊢<;>omega
theorem X7d (x y:Nat):(x ||| y)=2*((x / 2) ||| (y / 2))+(x%2+y%2-(x%2)*(y%2)):=by
 have h1:(x ||| y) / 2=(x / 2) ||| (y / 2):=Nat.or_div_two
 have h2:(x ||| y)%2=1 ↔ x%2=1∨y%2=1:=Nat.or_mod_two_eq_one
 rcases Nat.mod_two_eq_zero_or_one x with a | a<;>rcases Nat.mod_two_eq_zero_or_one y with b | b<;>rw[a,b] at h2 ⊢<;>omega
def Half (x y:Int):Prop:=Builtin.bitAnd x y=2*Builtin.bitAnd (x / 2) (y / 2)+(x%2)*(y%2)
theorem Half.swap {x y:Int}(h:Half x y):Half y x:=by
 unfold Half at h ⊢
 rw[bitAnd_comm y x,bitAnd_comm (y / 2),Int.mul_comm (y%2)];exact h
theorem Half.flip {x y:Int}(h:Half x (Builtin.bitNot y)):Half x y:=by
 unfold Half at h ⊢
 have e:=bitAnd_not x (Builtin.bitNot y)
 have e2:=bitAnd_not (x / 2) (Builtin.bitNot (y / 2))
 rw[bitNot_bitNot] at e e2
 have q:Builtin.bitNot (y / 2)=Builtin.bitNot y / 2:=by unfold Builtin.bitNot;omega
 have p:x%2*(y%2)=x%2-x%2*(Builtin.bitNot y%2):=by
  rw[show y%2=1-Builtin.bitNot y%2 by unfold Builtin.bitNot;omega,Int.mul_sub,Int.mul_one]
 rw[e,e2,q,h,p];omega
theorem Half.pos {x y:Int}(hx:0<=x)(hy:0<=y):Half x y:=by
 have h:∀ {z:Int},0<=z->z.toNat / 2=(z / 2).toNat/\((z.toNat%2:Nat):Int)=z%2:=fun h=>by omega
 unfold Half
 rw[bitAnd_pp hx hy,bitAnd_pp (Int.ediv_nonneg hx (by decide)) (Int.ediv_nonneg hy (by decide)),Y1l,(h hx).1,(h hy).1,<-(h hx).2,<-(h hy).2,Int.natCast_add,Int.natCast_mul,Int.natCast_mul];rfl
theorem Half.right {x:Int}(hx:0<=x)(y:Int):Half x y :=
 (Classical.em (0<=y)).elim (Half.pos hx) fun hy=>(Half.pos hx (bitNot_nonneg.mpr hy)).flip
theorem Z9a (x y:Int):Builtin.bitAnd x y=2*Builtin.bitAnd (x / 2) (y / 2)+(x%2)*(y%2) :=
 (Classical.em (0<=x)).elim (fun hx=>Half.right hx y) fun hx=>(Half.right (bitNot_nonneg.mpr hx) y).swap.flip.swap
theorem X3v (x y:Int):Builtin.bitOr x y=2*Builtin.bitOr (x / 2) (y / 2)+(x%2+y%2-(x%2)*(y%2)):=by
 rw[bitOr_and,bitOr_and,Z9a]
 omega
theorem Z4c {v:Nat}{x:Int}:(2:Int)^(v+1) ∣ x ↔ x%2=0/\(2:Int)^v ∣ x / 2:=by
 constructor
 ·rintro ⟨k,rfl⟩
  have e:(2:Int)^(v+1)*k=2*(2^v*k):=by rw[Int.pow_succ];grind
  rw[e]
  exact⟨by omega,⟨k,by omega⟩⟩
 ·rintro ⟨h0,k,hk⟩
  refine⟨k,?_⟩
  have e:(2:Int)^(v+1)*k=2*(2^v*k):=by rw[Int.pow_succ];grind
  rw[e,<-hk]
  omega
theorem Z7p:∀ (v:Nat) (x y:Int),(2:Int)^v ∣ Builtin.bitOr x y ↔ (2:Int)^v ∣ x/\(2:Int)^v ∣ y
 | 0,x,y=>by simp
 | v+1,x,y=>by
  rw[Z4c,Z4c,Z4c]
  have e:=X3v x y
  have ih:=Z7p v (x / 2) (y / 2)
  have ex:=Int.emod_two_eq x
  have ey:=Int.emod_two_eq y
  rcases ex with a | a<;>rcases ey with b | b<;>rw[a,b] at e ⊢
  ·have e2:Builtin.bitOr x y / 2=Builtin.bitOr (x / 2) (y / 2):=by omega
   rw[e2,ih]
   have e3:Builtin.bitOr x y%2=0:=by omega
   simp[e3]
  all_goals
   have e3:Builtin.bitOr x y%2=1:=by omega
   simp[e3]
theorem Y4x (n:Nat):n<2^n:=Nat.lt_two_pow_self
theorem Z6g {x:Int}(h:∀ v:Nat,(2:Int)^v ∣ x):x=0:=by
 have h1:=h x.natAbs
 apply Classical.byContradiction
 intro hx
 have h2:=Int.natAbs_dvd_natAbs.mpr h1
 have h3:=Nat.le_of_dvd (by omega) h2
 rw[Int.natAbs_pow] at h3
 have:=Y4x x.natAbs
 have e:(2:Int).natAbs=2:=rfl
 rw[e] at h3
 omega
theorem Y1e {x y:Int}:Builtin.bitOr x y=0 ↔ x=0/\y=0:=by
 constructor
 ·intro h
  have hd:∀ v:Nat,(2:Int)^v ∣ Builtin.bitOr x y:=fun v=>by rw[h];exact Int.dvd_zero _
  exact⟨Z6g fun v=>((Z7p v x y).mp (hd v)).1,Z6g fun v=>((Z7p v x y).mp (hd v)).2⟩
 ·rintro ⟨rfl,rfl⟩
  decide +kernel
theorem Y7k:∀ (n:Nat) (p:Int),p.natAbs<n->p≠0->∃ (v:Nat) (q:Int),p=2^v*q/\q%2=1/\Builtin.bitAnd p (-p)=((2^v:Nat):Int)
 | 0,p,h,_=>by omega
 | n+1,p,h,hp=>by
  rcases Int.emod_two_eq p with h0 | h1
  ·obtain⟨v,q,e,o,b⟩:=Y7k n (p / 2) (by omega) (by omega)
   refine⟨v+1,q,?_,o,?_⟩
   ·have e2:(2:Int)^(v+1)*q=2*(2^v*q):=by rw[Int.pow_succ];grind
    rw[e2,<-e];omega
   ·rw[Z9a,show (-p) / 2=-(p / 2) by omega,b,h0,Nat.pow_succ]
    omega
  ·refine⟨0,p,by simp,h1,?_⟩
   rw[Z9a,show (-p) / 2=Builtin.bitNot (p / 2) by unfold Builtin.bitNot;omega,bitAnd_not,bitAnd_self,h1,show (-p)%2=1 by omega]
   rw[Int.sub_self];rfl
theorem Z8y (v:Nat):Builtin.Int.intBits ((2^v:Nat):Int)=v+1:=by
 unfold Builtin.Int.intBits
 have hp:0<2^v:=Nat.two_pow_pos v
 have hne:((((2^v:Nat):Int)) == 0)=false:=by
  rw[beq_eq_false_iff_ne];omega
 rw[hne,Int.natAbs_natCast,Nat.log2_two_pow]
 rfl
end Bt
namespace L2
open PySem PySem.Spec PyProof.Rows
section
variable {X:Cx}
def CShl (i j:Int):Prop:=∃ a,Sz a i/\0<=j/\(a:Int)+j<=1048576
theorem Z1r:OpR X (binaryOp .LShift) (rI CShl fun i j=>.int (i*2^j.toNat)):=opI fun i j _ _ _ _ _ hc q=>by
 obtain⟨a,h1,h2,h3⟩:=hc
 have:=h1.bits
 exact lshift_int h2 (by omega) q
theorem Z2l:MtR X "int.bit_length" (fun x xs H Q=>∃ i,x=.int i/\xs=[]/\Q (.int (Builtin.Int.intBits i:Nat)) H):=by
 intro pins s σ H x xs v us Q I rx rs h
 obtain⟨i,rfl,rfl,q⟩:=h
 obtain⟨t,rfl⟩:=rx
 cases rs
 refine call_gives PySem.F.slot_int_bit_length (typeIs_int s i t) PySem.F.entry_int_bit_length (PySem.F.args_int_bit_length_1 _) (PySem.AutoIntG2.int_bit_length_int_0 i t) ?_
 exact⟨.int (Builtin.Int.intBits i:Nat),H,I.tok _,⟨_,rfl⟩,q⟩
theorem Y0j (hc:X.calm=true):CallR X (.builtin "any") (fun xs H Q=>∃ (p:Addr) (bs:List Bool),xs=[.ref p]/\SqL X.K H p (bs.map V.bl)/\Q (.bl (bs.any id)) H):=by
 intro pins s σ H xs us Q I r h
 obtain⟨p,bs,rfl,hq,q⟩:=h
 obtain⟨u,rfl,ru⟩:=r.one
 cases ru
 obtain⟨its,rv,pl,hz⟩:=I.list hq
 have hlen:its.length=bs.length:=by rw[<-rv.length,List.length_map]
 refine call_any_walk (wpAny_pyIter_list pl.isList ?_)
 have W:=Walks.list (prog:=X.prog) (w:=X.w) (A:=X.A.in1) (show X.A.in1.handled=none from I.ok.hd hc) s.heap.objs.size p (by
  obtain⟨o,e,_⟩:=pl.isList
  exact Nat.ne_of_lt (Heap.lt_size e)) its.toArray
 refine⟨s.heap.objs.size,_,_,_,_,_,fun i=>bs.getD i false,rfl,W,⟨⟨_,Heap.get?_push_size _ rfl,rfl,rfl⟩,pl.isList.push _⟩,?_,fun h' tk hk=>?_⟩
 ·intro i v s' Q' E' hv hQ
  have hv':its[i]?=some v:=by simpa using hv
  have hi:i<bs.length:=by rw[<-hlen];exact(List.getElem?_eq_some_iff.mp hv').1
  have hb:(bs.map V.bl)[i]?=some (.bl (bs.getD i false)):=by
   rw[List.getElem?_map,List.getElem?_eq_getElem hi,List.getD_eq_getElem?_getD,List.getElem?_eq_getElem hi];rfl
  obtain⟨u,hu,ru⟩:=rv.get hb
  rw[hv'] at hu
  cases hu
  cases ru
  exact wpAny_truthy_bool hQ
 ·have e:(List.range its.toArray.size).any (fun i=>bs.getD i false)=bs.any id:=by
   rw[List.size_toArray,hlen]
   rw[Bool.eq_iff_iff,List.any_eq_true,List.any_eq_true]
   constructor
   ·rintro ⟨i,hi,hb⟩
    have hi':i<bs.length:=List.mem_range.mp hi
    rw[List.getD_eq_getElem?_getD,List.getElem?_eq_getElem hi'] at hb
    exact⟨bs[i],List.getElem_mem hi',hb⟩
   ·rintro ⟨b,hb,hb'⟩
    obtain⟨i,hi,rfl⟩:=List.mem_iff_getElem.mp hb
    refine⟨i,List.mem_range.mpr hi,?_⟩
    rw[List.getD_eq_getElem?_getD,List.getElem?_eq_getElem hi]
    exact hb'
  rw[e]
  refine⟨.bl (bs.any id),H,?_,rfl,q⟩
  exact I.kept (t':=tk) fun b o eo=>hk b o (by simp;exact Nat.ne_of_lt (Heap.lt_size eo)) (Heap.get?_push_of_some _ eo)
def rEqLI (K:PySem.W.Frag)(neg:Bool):R2:=fun x y H Q=>∃ (a b:Addr) (ns ms:List Int),x=.ref a/\y=.ref b/\SqL K H a (ns.map V.int)/\SqL K H b (ms.map V.int)/\Q (.bl (if neg then !decide (ns=ms) else decide (ns=ms))) H
theorem X3w (hu:X.A.units+64<cLine):OpR X (compareOp .NotEq) (rEqLI X.K true):=by
 intro pins s σ H x y v u Q I rx ry h
 obtain⟨a,b,ns,ms,rfl,rfl,h1,h2,q⟩:=h
 cases rx;cases ry
 obtain⟨its,rv,p,_⟩:=I.list h1
 obtain⟨its',rv',p',_⟩:=I.list h2
 exact PySem.W.ne_intsK p.isList (Z1w rv) p'.isList (Z1w rv') hu ⟨.bl (!decide (ns=ms)),H,I,rfl,q⟩
end
end L2
namespace Am
open PySem
abbrev p2 (h:Int):Int:=2^h.toNat
theorem X6w (h:Int):0<p2 h:=Int.pow_pos (by decide)
theorem Z9s (h:Int):p2 h≠0:=by have:=X6w h;omega
theorem Z9t {a b:Int}(ha:0<=a)(hb:0<=b):p2 (a+b)=p2 a*p2 b:=by
 unfold p2
 rw[show (a+b).toNat=a.toNat+b.toNat by omega,Int.pow_add]
theorem Z5v {a b:Int}(hb:0<=b)(h:b<=a):p2 a=p2 (a-b)*p2 b:=by
 rw[<-Z9t (by omega) hb]
 congr 1
 omega
structure Amt (a b c d h:Int):Prop where
 nn:0<=h
 odd:h=0∨a%2=1∨b%2=1∨c%2=1∨d%2=1
def Eq2 (x h y g:Int):Prop:=x*p2 g=y*p2 h
structure Same4 (a b c d h a' b' c' d' h':Int):Prop where
 e1:Eq2 a h a' h'
 e2:Eq2 b h b' h'
 e3:Eq2 c h c' h'
 e4:Eq2 d h d' h'
theorem Same4.symm {a b c d h a' b' c' d' h':Int}(s:Same4 a b c d h a' b' c' d' h'):Same4 a' b' c' d' h' a b c d h:=⟨s.e1.symm,s.e2.symm,s.e3.symm,s.e4.symm⟩
theorem Eq2.trans {x h y g z k:Int}(a:Eq2 x h y g)(b:Eq2 y g z k):Eq2 x h z k:=by
 unfold Eq2 at *
 have h1:(x*p2 k)*p2 g=(z*p2 h)*p2 g:=by
  have e1:(x*p2 k)*p2 g=(x*p2 g)*p2 k:=by grind
  have e2:(z*p2 h)*p2 g=(z*p2 g)*p2 h:=by grind
  rw[e1,e2,a,<-b];grind
 exact Int.eq_of_mul_eq_mul_right (Z9s g) h1
theorem Same4.trans {a b c d h a' b' c' d' h' a2 b2 c2 d2 h2:Int}(s:Same4 a b c d h a' b' c' d' h')(t:Same4 a' b' c' d' h' a2 b2 c2 d2 h2):Same4 a b c d h a2 b2 c2 d2 h2 :=
 ⟨s.e1.trans t.e1,s.e2.trans t.e2,s.e3.trans t.e3,s.e4.trans t.e4⟩
theorem Eq2.lift {x h y g:Int}(hh:0<=h)(hg:h<=g)(e:Eq2 x h y g):y=x*p2 (g-h):=by
 unfold Eq2 at e
 rw[Z5v hh hg] at e
 have:(x*p2 (g-h))*p2 h=y*p2 h:=by rw[<-e];grind
 exact(Int.eq_of_mul_eq_mul_right (Z9s h) this).symm
theorem Z5i {x n:Int}(hn:0<n):(x*p2 n)%2=0:=by
 have e:p2 n=p2 (n-1)*2:=by
  rw[Z5v (a:=n) (b:=1) (by decide) (by omega)]
  rfl
 rw[e,<-Int.mul_assoc]
 omega
theorem Amt.unique_le {a b c d h a' b' c' d' h':Int}(x:Amt a b c d h)(y:Amt a' b' c' d' h')(s:Same4 a b c d h a' b' c' d' h')(hle:h<=h'):a=a'/\b=b'/\c=c'/\d=d'/\h=h':=by
 have e1:=s.e1.lift x.nn hle
 have e2:=s.e2.lift x.nn hle
 have e3:=s.e3.lift x.nn hle
 have e4:=s.e4.lift x.nn hle
 have he:h=h':=by
  apply Classical.byContradiction
  intro hne
  have hp:0<h'-h:=by omega
  have o:=y.odd
  rw[e1,e2,e3,e4,Z5i hp,Z5i hp,Z5i hp,Z5i hp] at o
  have:=x.nn
  omega
 subst he
 simp only[Int.sub_self,p2,Int.toNat_zero,Int.pow_zero,Int.mul_one] at e1 e2 e3 e4
 exact⟨e1.symm,e2.symm,e3.symm,e4.symm,rfl⟩
theorem Amt.unique {a b c d h a' b' c' d' h':Int}(x:Amt a b c d h)(y:Amt a' b' c' d' h')(s:Same4 a b c d h a' b' c' d' h'):a=a'/\b=b'/\c=c'/\d=d'/\h=h':=by
 rcases Int.le_total h h' with hle | hle
 ·exact x.unique_le y s hle
 ·obtain⟨q1,q2,q3,q4,q5⟩:=y.unique_le x s.symm hle
  exact⟨q1.symm,q2.symm,q3.symm,q4.symm,q5.symm⟩
abbrev orAll (a b c d:Int):Int:=Builtin.bitOr (Builtin.bitOr (Builtin.bitOr a b) c) d
theorem orAll_dvd {v:Nat}{a b c d:Int}:(2:Int)^v ∣ orAll a b c d ↔ ((2:Int)^v ∣ a/\(2:Int)^v ∣ b/\(2:Int)^v ∣ c/\(2:Int)^v ∣ d):=by
 unfold orAll
 rw[Bt.Z7p,Bt.Z7p,Bt.Z7p]
 constructor
 ·rintro ⟨⟨⟨h1,h2⟩,h3⟩,h4⟩;exact⟨h1,h2,h3,h4⟩
 ·rintro ⟨h1,h2,h3,h4⟩;exact⟨⟨⟨h1,h2⟩,h3⟩,h4⟩
theorem orAll_zero {a b c d:Int}:orAll a b c d=0 ↔ (a=0/\b=0/\c=0/\d=0):=by
 unfold orAll
 rw[Bt.Y1e,Bt.Y1e,Bt.Y1e]
 constructor
 ·rintro ⟨⟨⟨h1,h2⟩,h3⟩,h4⟩;exact⟨h1,h2,h3,h4⟩
 ·rintro ⟨h1,h2,h3,h4⟩;exact⟨⟨⟨h1,h2⟩,h3⟩,h4⟩
theorem lowest {a b c d:Int}(hp:orAll a b c d≠0):∃ v:Nat,((Builtin.Int.intBits (Builtin.bitAnd (orAll a b c d) (-(orAll a b c d))):Nat):Int)-1=v/\((2:Int)^v ∣ a/\(2:Int)^v ∣ b/\(2:Int)^v ∣ c/\(2:Int)^v ∣ d) ∧
  ¬ ((2:Int)^(v+1) ∣ a/\(2:Int)^(v+1) ∣ b/\(2:Int)^(v+1) ∣ c/\(2:Int)^(v+1) ∣ d):=by
 obtain⟨v,q,e,o,bb⟩:=Bt.Y7k _ (orAll a b c d) (Nat.lt_succ_self _) hp
 refine⟨v,by rw[bb,Bt.Z8y];omega,orAll_dvd.mp ⟨q,e⟩,fun h=>?_⟩
 have h':=orAll_dvd.mpr h
 obtain⟨k,hk⟩:=h'
 rw[e,Int.pow_succ,Int.mul_assoc] at hk
 have:=Int.eq_of_mul_eq_mul_left (Int.ne_of_gt (Int.pow_pos (by decide):(0:Int)<2^v)) hk
 omega
theorem Z6f {x h m:Int}(hm:0<=m)(hmh:m<=h)(hd:(2:Int)^m.toNat ∣ x):Eq2 x h (x / 2^m.toNat) (h-m)/\(x / 2^m.toNat).natAbs<=x.natAbs:=by
 obtain⟨k,rfl⟩:=hd
 have hne:(2:Int)^m.toNat≠0:=Z9s m
 rw[Int.mul_ediv_cancel_left _ hne]
 constructor
 ·unfold Eq2
  rw[Z5v hm hmh]
  show 2^m.toNat*k*p2 (h-m)=k*(p2 (h-m)*2^m.toNat)
  grind
 ·rw[Int.natAbs_mul]
  exact Nat.le_mul_of_pos_left _ (by omega)
theorem Y3z {x:Int}{m v:Nat}(h:m<=v)(hd:(2:Int)^v ∣ x):(2:Int)^m ∣ x:=by
 obtain⟨k,rfl⟩:=hd
 refine⟨2^(v-m)*k,?_⟩
 rw[<-Int.mul_assoc,<-Int.pow_add,show m+(v-m)=v by omega]
theorem halve {a b c d h:Int}(hh:0<=h){v:Nat}(hd:(2:Int)^v ∣ a/\(2:Int)^v ∣ b/\(2:Int)^v ∣ c/\(2:Int)^v ∣ d)
  (hn:¬ ((2:Int)^(v+1) ∣ a/\(2:Int)^(v+1) ∣ b/\(2:Int)^(v+1) ∣ c/\(2:Int)^(v+1) ∣ d)) {m:Int} (hm:m=if h<v then h else v) :
  0<=m/\m<=h/\Amt (a / 2^m.toNat) (b / 2^m.toNat) (c / 2^m.toNat) (d / 2^m.toNat) (h-m)/\Same4 a b c d h (a / 2^m.toNat) (b / 2^m.toNat) (c / 2^m.toNat) (d / 2^m.toNat) (h-m) ∧
  ((a / 2^m.toNat).natAbs<=a.natAbs/\(b / 2^m.toNat).natAbs<=b.natAbs/\(c / 2^m.toNat).natAbs<=c.natAbs/\(d / 2^m.toNat).natAbs<=d.natAbs):=by
 have m0:0<=m:=by rw[hm];split<;>omega
 have m1:m<=h:=by rw[hm];split<;>omega
 have mv:m.toNat<=v:=by rw[hm];split<;>omega
 obtain⟨d1,d2,d3,d4⟩:=hd
 have q1:=Z6f m0 m1 (Y3z mv d1)
 have q2:=Z6f m0 m1 (Y3z mv d2)
 have q3:=Z6f m0 m1 (Y3z mv d3)
 have q4:=Z6f m0 m1 (Y3z mv d4)
 refine⟨m0,m1,⟨by omega,?_⟩,⟨q1.1,q2.1,q3.1,q4.1⟩,q1.2,q2.2,q3.2,q4.2⟩
 by_cases hlt:h<v
 ·left
  rw[hm,if_pos hlt]
  omega
 ·right
  have hmv:m.toNat=v:=by rw[hm,if_neg hlt];omega
  rw[hmv]
  have tail:∀ x:Int,(2:Int)^v ∣ x->¬ (x / 2^v)%2=1->(2:Int)^(v+1) ∣ x:=by
   rintro x ⟨k,rfl⟩ ho
   have hne:(2:Int)^v≠0:=Int.ne_of_gt (Int.pow_pos (by decide))
   rw[Int.mul_ediv_cancel_left _ hne] at ho
   refine⟨k / 2,?_⟩
   rw[Int.pow_succ,Int.mul_assoc]
   congr 1
   omega
  apply Classical.byContradiction
  intro hno
  apply hn
  refine⟨tail a d1 fun o=>hno (.inl o),tail b d2 fun o=>hno (.inr (.inl o)),tail c d3 fun o=>hno (.inr (.inr (.inl o))),tail d d4 fun o=>hno (.inr (.inr (.inr o)))⟩
end Am
namespace Pc
open PySem PyProof.Rows
def pc (n:Nat):Nat:=if h:n=0 then 0 else n%2+pc (n / 2)
theorem Z2c:pc 0=0:=by unfold pc;simp
theorem Z4g (n:Nat):pc n=n%2+pc (n / 2):=by
 by_cases h:n=0
 ·subst h;rw[show (0 / 2:Nat)=0 from rfl,Z2c]
 ·conv=>lhs;unfold pc
  rw[dif_neg h]
theorem Z3r (x y:Nat):(x^^^y)=2*((x / 2)^^^(y / 2))+(x%2+y%2)%2:=by
 have h1:(x^^^y) / 2=(x / 2)^^^(y / 2):=Nat.xor_div_two
 have h2:(x^^^y)%2=(x%2+y%2)%2:=by
  have:=Nat.xor_mod_two_eq_one (a:=x) (b:=y)
  rcases Nat.mod_two_eq_zero_or_one x with a | a<;>rcases Nat.mod_two_eq_zero_or_one y with b | b<;>rcases Nat.mod_two_eq_zero_or_one (x^^^y) with c | c<;>simp[a,b,c] at this ⊢
 omega
theorem Y6m:∀ (m n:Nat),n<m->n≠0->pc (n&&&(n-1))+1=pc n
 | 0,n,h,_=>by omega
 | m+1,n,h,hn=>by
  have e:=Bt.Y1l n (n-1)
  rw[Z4g n,Z4g (n&&&(n-1))]
  rcases Nat.mod_two_eq_zero_or_one n with a | a
  ·have e1:(n-1) / 2=n / 2-1:=by omega
   rw[e1,a,Nat.zero_mul] at e
   have e2:(n&&&(n-1)) / 2=n / 2&&&(n / 2-1):=by omega
   have e3:(n&&&(n-1))%2=0:=by omega
   rw[e2,e3,a]
   have:=Y6m m (n / 2) (by omega) (by omega)
   omega
  ·have e1:(n-1) / 2=n / 2:=by omega
   have e0:(n-1)%2=0:=by omega
   rw[e1,e0,Nat.mul_zero,Nat.and_self] at e
   have e2:(n&&&(n-1)) / 2=n / 2:=by omega
   have e3:(n&&&(n-1))%2=0:=by omega
   rw[e2,e3,a]
   omega
theorem X2f:∀ (m x y:Nat),x<m->y<m->pc (x^^^y)%2=(pc x+pc y)%2
 | 0,x,y,h,_=>by omega
 | m+1,x,y,hx,hy=>by
  by_cases z:x=0/\y=0
  ·obtain⟨rfl,rfl⟩:=z
   rw[show (0^^^0:Nat)=0 from rfl,Z2c]
  ·have e:=Z3r x y
   rw[Z4g (x^^^y),Z4g x,Z4g y,show (x^^^y) / 2=x / 2^^^y / 2 by omega]
   by_cases q:x / 2<m/\y / 2<m
   ·have:=X2f m (x / 2) (y / 2) q.1 q.2
    omega
   ·exfalso;omega
theorem pcx (x y:Nat):pc (x^^^y)%2=(pc x+pc y)%2:=X2f (x+y+1) x y (by omega) (by omega)
theorem Y6o:∀ (m x y:Nat),x<m->y<m->(x ||| y)=(x^^^y)+(x&&&y)
 | 0,x,y,h,_=>by omega
 | m+1,x,y,hx,hy=>by
  by_cases z:x=0/\y=0
  ·obtain⟨rfl,rfl⟩:=z;rfl
  ·have e:=Z3r x y
   have e1:=Bt.Y1l x y
   have e2:=Bt.X7d x y
   by_cases q:x / 2<m/\y / 2<m
   ·have:=Y6o m (x / 2) (y / 2) q.1 q.2
    rcases Nat.mod_two_eq_zero_or_one x with a | a<;>rcases Nat.mod_two_eq_zero_or_one y with b | b<;>rw[a,b] at e e1 e2<;>omega
   ·exfalso;omega
theorem Z5s (x y:Nat):Builtin.bitAnd (x:Int) (y:Int)=((x&&&y:Nat):Int):=by rw[bitAnd_pp (by omega) (by omega)];simp
theorem Z4p (x y:Nat):Builtin.bitXor (x:Int) (y:Int)=((x^^^y:Nat):Int):=by
 have h:Builtin.bitXor (x:Int) (y:Int)=Builtin.bitOr x y-Builtin.bitAnd x y:=rfl
 have h2:Builtin.bitOr (x:Int) (y:Int)=((x ||| y:Nat):Int):=by
  unfold Builtin.bitOr
  rw[bitAnd_nn (by unfold Builtin.bitNot;omega) (by unfold Builtin.bitNot;omega),bitNot_bitNot,bitNot_bitNot,bitNot_bitNot]
  simp
 rw[h,h2,Z5s,Y6o (x+y+1) x y (by omega) (by omega)]
 omega
end Pc
namespace L2
open PySem PySem.Spec PyProof.Rows
theorem Same.tup {K:PySem.W.Frag}{H H':Hp}{a:Addr}{xs:List V}(e:Same H H')(h:SqT K H a xs):SqT K H' a xs:=by
 rcases h with h | h
 ·rcases h with h | ⟨o,h⟩
  ·exact .inl (.inl (e _ _ h))
  ·exact .inl (.inr ⟨o,e _ _ h⟩)
 ·exact .inr h
theorem Same.sqx {t:Bool}{K:PySem.W.Frag}{H H':Hp}{a:Addr}{xs:List V}(e:Same H H')(h:SqX t K H a xs):SqX t K H' a xs:=by
 cases t
 ·exact e.seq (show SqL K H a xs from h)
 ·exact e.tup (show SqT K H a xs from h)
section
variable {X:Cx}{scope:Scope}{Nc:List Str}{ex:List Addr}{pins:List (Addr × Obj)}{s:Shared}{H:Hp}
theorem Z8p:IxR (cxLc X scope Nc ex pins s H) (rIxL X.K):=Z1a
theorem Z4u:IxR (cxLc X scope Nc ex pins s H) (rIxT X.K):=Z0l
theorem Z6b {x y:Str}{k:Nat}{p1 p2 pos:Pos}(hc:(cxLc X scope Nc ex pins s H).calm=true)(hN:Nc.Nodup)(h0:Nc[0]?=some x)(h1:Nc[1]?=some y)(l0:(cxLc X scope Nc ex pins s H).env.scope.names.lookup x=some .local)(l1:(cxLc X scope Nc ex pins s H).env.scope.names.lookup y=some .local) :
  PG (cxLc X scope Nc ex pins s H) (.Tuple [.Name x p1,.Name y p2] k pos) (gTup X.K 2 (gCons (gName 0) (gCons (gName 1) gNil))) :=
 Z4n (X:=cxLc X scope Nc ex pins s H) hc (Z1b (Z0m (i:=0) hN h0 (.inl l0) (.inr l0)) (Z1b (Z0m (i:=1) hN h1 (.inl l1) (.inr l1)) Z3j))
end
theorem X5a {t1 t2:Bool}{K:PySem.W.Frag}{l1 l2:Addr}{g:TG}{ns ms:List Int}{te:TE}{fr:St}{H1:Hp}{acc:Addr}{Q:VK}(f:Int->Int->Int)(hxy:ns.length=ms.length)(hn:ns.length<=sizeLine)
  (h1:SqX t1 K H1 l1 (ns.map V.int)) (h2:SqX t2 K H1 l2 (ms.map V.int)) (hacc:H1 acc=none)
  (hg:∀ {a:Addr}{x y:V}{w1 w2:Option V}{H:Hp}{Q:St->Hp->Prop},H a=some (.tup [x,y])->Q (some x::some y::fr) H->g (.ref a) (w1::w2::fr) H Q)
  (hs:∀ n m H (N:V->Hp->Prop),n∈ns->m∈ms->N (.int (f n m)) H->te (some (.int n)::some (.int m)::fr) H N)
  (hd:∀ H2,Same H1 H2->H2 acc=some (.lst ((List.zipWith f ns ms).map V.int))->Q (.ref acc) H2):LcW (Itz t1 t2 K l1 l2) g te (none::none::fr) H1 acc Q:=by
 refine X7f (xs:=ns.map V.int) (ys:=ms.map V.int) (fun i zs H'=>Same H1 H'/\H' acc=some (.lst zs)/\zs=((List.zipWith f ns ms).take i).map V.int) (by simp[hxy]) (by simp;exact hn)
  ⟨Z0f hacc _,Z0c,rfl⟩ (fun ha hQ=>hg ha hQ) (fun i zs H p=>⟨p.1.sqx h1,p.1.sqx h2⟩) ?_ ?_
 ·rintro i x y zs H T N hx hy hl ⟨s2,a2,e2⟩ hT kN
  rw[List.getElem?_map] at hx hy
  obtain⟨n,hn1,rfl⟩:=Option.map_eq_some_iff.mp hx
  obtain⟨m,hm1,rfl⟩:=Option.map_eq_some_iff.mp hy
  refine hs n m _ _ (List.mem_of_getElem? hn1) (List.mem_of_getElem? hm1) ?_
  have hTa:acc≠T:=fun e=>by rw[<-e,a2] at hT;cases hT
  refine kN _ _ (by rw[Z0x hTa];exact a2) ⟨Z0s (s2.trans (Z0f hT _)) hacc,Z0c,?_⟩
  have:(List.zipWith f ns ms)[i]?=some (f n m):=by rw[List.getElem?_zipWith,hn1,hm1]
  rw[List.take_add_one,this,List.map_append,e2]
  rfl
 ·rintro zs H hl ⟨s2,a2,e2⟩
  refine hd H s2 ?_
  rw[a2,e2,List.take_of_length_le]
  simp only[List.length_zipWith,List.length_map]
  omega
section
variable {K:PySem.W.Frag}{a:Addr}{ns:List Int}{te:TE}{fr:St}{H1:Hp}{acc:Addr}{Q:VK}
theorem Z8n {J:It}{n:Nat}{val:Nat->V}(f:Nat->V)(hn:n<=sizeLine)(hacc:H1 acc=none)
  (hgo:∀ i H,i<n->Same H1 H->J.go i H/\∀ x H',J.yld i H x H'->H'=H/\x=val i) (hst:∀ H,Same H1 H->J.stop n H)
  (hs:∀ i H (N:V->Hp->Prop),i<n->Same H1 H->N (f i) H->te (some (val i)::fr) H N)
  (hd:∀ H2,Same H1 H2->H2 acc=some (.lst ((List.range n).map f))->Q (.ref acc) H2):LcW J (gName 0) te (none::fr) H1 acc Q:=by
 refine X5d (val:=val) (fun i ys H'=>Same H1 H'/\H' acc=some (.lst ys)/\ys=(List.range i).map f) hn ⟨Z0f hacc _,Z0c,rfl⟩ (fun i ys H hi p=>hgo i H hi p.1) (fun ys H p=>hst H p.1) ?_ ?_
 ·rintro i ys H N hi hl ⟨s2,a2,e2⟩ kN
  refine hs i H N hi s2 (kN _ _ a2 ⟨Z0s s2 hacc,Z0c,?_⟩)
  rw[e2,List.range_succ,List.map_append]
  rfl
 ·rintro ys H hl ⟨s2,a2,e2⟩
  exact hd H s2 (by rw[a2,e2])
theorem Z4y (ns:List Int)(f:Int->V):(List.range ns.length).map (fun i=>f (ns.getD i 0))=ns.map f:=by
 apply List.ext_getElem
 ·simp
 ·intro i h1 h2
  simp at h1
  simp[h1]
theorem Y3q (f:Int->V)(hl:SqL K H1 a (ns.map V.int))(hn:ns.length<=sizeLine)(hacc:H1 acc=none)(hs:∀ n H (N:V->Hp->Prop),Same H1 H->N (f n) H->te (some (.int n)::fr) H N)
  (hd:∀ H2,Same H1 H2->H2 acc=some (.lst (ns.map f))->Q (.ref acc) H2):LcW (Itl K a) (gName 0) te (none::fr) H1 acc Q:=by
 refine Z8n (n:=ns.length) (val:=fun i=>.int (ns.getD i 0)) (fun i=>f (ns.getD i 0)) hn hacc (fun i H hi s=>?_) (fun H s=>⟨_,s.seq hl,by simp⟩) (fun i H N hi s kN=>hs _ H N s kN) (fun H2 s h=>hd H2 s (by rw[h,Z4y]))
 have e:(ns.map V.int)[i]?=some (.int (ns.getD i 0)):=by simp[hi]
 refine⟨⟨_,_,s.seq hl,e⟩,fun x H' y=>⟨y.1,?_⟩⟩
 have:=y.2 _ (s.seq hl)
 rw[e] at this
 exact(Option.some.inj this).symm
theorem X5b (f:Int->V)(hl:SqT K H1 a (ns.map V.int))(hn:ns.length<=sizeLine)(hacc:H1 acc=none)(hs:∀ n H (N:V->Hp->Prop),Same H1 H->N (f n) H->te (some (.int n)::fr) H N)
  (hd:∀ H2,Same H1 H2->H2 acc=some (.lst (ns.map f))->Q (.ref acc) H2):LcW (Itt K a) (gName 0) te (none::fr) H1 acc Q:=by
 refine Z8n (n:=ns.length) (val:=fun i=>.int (ns.getD i 0)) (fun i=>f (ns.getD i 0)) hn hacc (fun i H hi s=>?_) (fun H s=>⟨_,s.tup hl,by simp⟩) (fun i H N hi s kN=>hs _ H N s kN) (fun H2 s h=>hd H2 s (by rw[h,Z4y]))
 have e:(ns.map V.int)[i]?=some (.int (ns.getD i 0)):=by simp[hi]
 refine⟨⟨_,_,s.tup hl,e⟩,fun x H' y=>⟨y.1,?_⟩⟩
 have:=y.2 _ (s.tup hl)
 rw[e] at this
 exact(Option.some.inj this).symm
end
section
variable {X:Cx}
end
theorem X0x {K:PySem.W.Frag}{a:Addr}{ns:List Int}{te:TE}{fr:St}{H1:Hp}{acc:Addr}{Q:VK}(f:Int->V)(hl:SqL K H1 a (ns.map V.int))(hn:ns.length<=sizeLine)(hacc:H1 acc=none)(hs:∀ n H (N:V->Hp->Prop),n∈ns->Same H1 H->N (f n) H->te (some (.int n)::fr) H N)
  (hd:∀ H2,Same H1 H2->H2 acc=some (.lst (ns.map f))->Q (.ref acc) H2):LcW (Itl K a) (gName 0) te (none::fr) H1 acc Q:=by
 refine Z8n (n:=ns.length) (val:=fun i=>.int (ns.getD i 0)) (fun i=>f (ns.getD i 0)) hn hacc (fun i H hi s=>?_) (fun H s=>⟨_,s.seq hl,by simp⟩) (fun i H N hi s kN=>hs _ H N (by simp[hi]) s kN) (fun H2 s h=>hd H2 s (by rw[h,Z4y]))
 have e:(ns.map V.int)[i]?=some (.int (ns.getD i 0)):=by simp[hi]
 refine⟨⟨_,_,s.seq hl,e⟩,fun x H' y=>⟨y.1,?_⟩⟩
 have:=y.2 _ (s.seq hl)
 rw[e] at this
 exact(Option.some.inj this).symm
section
variable {κ:Type} [DecidableEq κ]
def valV (kvs:List (κ × V))(k:κ):Option V:=(kvs.find? fun kv=>decide (kv.1=k)).map (·.2)
def putK (kvs:List (κ × V))(k:κ)(v:V):List (κ × V) :=
 if (kvs.any fun kv=>decide (kv.1=k))=true then kvs.map (fun kv=>if kv.1=k then (kv.1,v) else kv) else kvs++[(k,v)]
theorem Y9e {k:κ}:valV ([]:List (κ × V)) k=none:=rfl
theorem Z1x {p:κ × V}{r:List (κ × V)}{k:κ}(e:p.1=k):valV (p::r) k=some p.2:=by simp[valV,List.find?_cons,e]
theorem Z1y {p:κ × V}{r:List (κ × V)}{k:κ}(e:¬ p.1=k):valV (p::r) k=valV r k:=by simp[valV,List.find?_cons,e]
theorem Z3o (k:κ):∀ kvs:List (κ × V),(kvs.any fun kv=>decide (kv.1=k))=(valV kvs k).isSome
 | []=>rfl
 | p::r=>by
  rw[List.any_cons]
  by_cases e:p.1=k
  ·simp only[Z1x e,decide_eq_true e,Bool.true_or,Option.isSome_some]
  ·rw[Z1y e,decide_eq_false e,Bool.false_or];exact Z3o k r
theorem Y2e (k j:κ)(y:V):∀ kvs:List (κ × V),valV (kvs.map fun kv=>if kv.1=k then (kv.1,y) else kv) j=(valV kvs j).map fun x=>if j=k then y else x
 | []=>rfl
 | p::r=>by
  have ih:=Y2e k j y r
  rw[List.map_cons]
  by_cases h:p.1=k
  ·rw[if_pos h]
   by_cases e:p.1=j
   ·rw[Z1x (p:=(p.1,y)) e,Z1x e,Option.map_some,if_pos (e.symm.trans h)]
   ·rw[Z1y (p:=(p.1,y)) e,Z1y e,ih]
  ·rw[if_neg h]
   by_cases e:p.1=j
   ·rw[Z1x (p:=p) e,Z1x e,Option.map_some,if_neg (fun z=>h (e.trans z))]
   ·rw[Z1y (p:=p) e,Z1y e,ih]
theorem Z9c (k j:κ)(y:V):∀ kvs:List (κ × V),valV kvs k=none->valV (kvs++[(k,y)]) j=if j=k then some y else valV kvs j
 | [],_=>by
  by_cases e:k=j
  ·rw[if_pos e.symm];exact Z1x (p:=(k,y)) e
  ·rw[if_neg (fun z=>e z.symm)];exact Z1y (p:=(k,y)) e
 | p::r,hn=>by
  rw[List.cons_append]
  have hk:¬ p.1=k:=fun z=>by rw[Z1x z] at hn;cases hn
  rw[Z1y hk] at hn
  have ih:=Z9c k j y r hn
  by_cases e:p.1=j
  ·rw[Z1x e,Z1x e,if_neg (fun z=>hk (e.trans z))]
  ·rw[Z1y e,Z1y e,ih]
theorem Z8a (kvs:List (κ × V))(k j:κ)(y:V):valV (putK kvs k y) j=if j=k then some y else valV kvs j:=by
 unfold putK
 by_cases a:(kvs.any fun kv=>decide (kv.1=k))=true
 ·rw[if_pos a,Y2e]
  rw[Z3o] at a
  by_cases e:j=k
  ·obtain⟨x,hx⟩:=Option.isSome_iff_exists.mp a
   rw[if_pos e,e,hx,Option.map_some,if_pos rfl]
  ·rw[if_neg e]
   cases valV kvs j with
   | none=>rfl
   | some x=>rw[Option.map_some,if_neg e]
 ·rw[if_neg a]
  refine Z9c k j y kvs ?_
  rw[Z3o] at a
  cases q:valV kvs k with
  | none=>rfl
  | some x=>rw[q] at a;exact(a rfl).elim
theorem Z4t (kvs:List (κ × V))(k:κ)(v:V):(putK kvs k v).length<=kvs.length+1:=by
 unfold putK
 split
 ·rw[List.length_map];omega
 ·rw[List.length_append,List.length_cons,List.length_nil];omega
theorem Y9q {kvs:List (κ × V)}{k:κ}(v:V)(h:valV kvs k=none):putK kvs k v=kvs++[(k,v)]:=by
 unfold putK
 rw[Z3o,h]
 exact if_neg (by decide)
theorem RelO.isSome_eq {o:Option V}{u:Option Value}(r:RelO o u):o.isSome=u.isSome:=by
 cases o with
 | none=>cases u with
  | none=>rfl
  | some _=>exact(show False from r).elim
 | some _=>cases u with
  | none=>exact(show False from r).elim
  | some _=>rfl
theorem KV.val {kvs:List (κ × V)}{vs:List (κ × Value)}(r:KV kvs vs)(k:κ):RelO (valV kvs k) (valueAt vs k):=by
 unfold KV at r
 induction r with
 | nil=>exact True.intro
 | @cons p q ps qs h t ih =>
  obtain⟨h1,h2⟩:=h
  by_cases e:p.1=k
  ·have e':q.1=k:=h1.symm.trans e
   have b:valueAt (q::qs) k=some q.2:=by simp[valueAt,List.find?_cons,e']
   rw[Z1x e,b];exact h2
  ·have e':¬ q.1=k:=fun z=>e (h1.trans z)
   have b:valueAt (q::qs) k=valueAt qs k:=by simp[valueAt,List.find?_cons,e']
   rw[Z1y e,b];exact ih
theorem KV.any {kvs:List (κ × V)}{vs:List (κ × Value)}(r:KV kvs vs)(k:κ):(kvs.any fun kv=>decide (kv.1=k))=vs.any fun kv=>decide (kv.1=k):=by
 unfold KV at r
 induction r with
 | nil=>rfl
 | cons h t ih=>rw[List.any_cons,List.any_cons,ih,h.1]
theorem KV.repl {kvs:List (κ × V)}{vs:List (κ × Value)}(r:KV kvs vs)(k:κ){y:V}{u:Value}(ry:RelV y u) :
  KV (kvs.map fun kv=>if kv.1=k then (kv.1,y) else kv) (vs.map fun kv=>if kv.1=k then (kv.1,u) else kv):=by
 unfold KV at r ⊢
 induction r with
 | nil=>exact .nil
 | @cons p q ps qs h t ih =>
  rw[List.map_cons,List.map_cons]
  refine .cons ?_ ih
  obtain⟨h1,h2⟩:=h
  by_cases e:p.1=k
  ·rw[if_pos e,if_pos (h1.symm.trans e)];exact⟨h1,ry⟩
  ·rw[if_neg e,if_neg (fun z=>e (h1.trans z))];exact⟨h1,h2⟩
theorem KV.put {kvs:List (κ × V)}{vs:List (κ × Value)}(r:KV kvs vs)(k:κ){y:V}{u:Value}(ry:RelV y u):KV (putK kvs k y) (stored vs k u):=by
 unfold putK stored
 rw[r.any k]
 by_cases e:(vs.any fun kv=>decide (kv.1=k))=true
 ·rw[if_pos e,if_pos e];exact r.repl k ry
 ·rw[if_neg e,if_neg e];exact Paired.snoc r ⟨rfl,ry⟩
theorem KV.keys {kvs:List (κ × V)}{vs:List (κ × Value)}(r:KV kvs vs):kvs.map (·.1)=vs.map (·.1):=by
 unfold KV at r
 induction r with
 | nil=>rfl
 | cons h t ih=>rw[List.map_cons,List.map_cons,ih,h.1]
theorem KV.length {kvs:List (κ × V)}{vs:List (κ × Value)}(r:KV kvs vs):kvs.length=vs.length:=Paired.length r
end
theorem Y1p {P:Program}{w:World}{k:Key}{u:Value}(r:RelV (kV k) u):(Z1v P w).is k u=true:=by
 cases k with
 | inl i=>obtain⟨t,e⟩:=(show ∃ t,u=Value.int i t from r);subst e;exact Y1n P w i t
 | inr x=>obtain⟨t,e⟩:=(show ∃ t,u=Value.str x t from r);subst e;exact Y1m P w x t
theorem Y0a {P:Program}{w:World}:∀ {ks:List Key}{us:List Value},Vals (ks.map kV) us->ItemsAre (Z1v P w) ks us
 | [],_,r=>by rw[List.map_nil] at r;cases r;exact .nil
 | k::ks,_,r=>by
  rw[List.map_cons] at r
  cases r with
  | cons h t=>exact .cons (Y1p h) (Y0a t)
abbrev KT (H:Hp):List (List Key × V)->List (List Key × Addr × Value)->Prop:=Paired fun p q=>p.1=q.1/\H q.2.1=some (.tup (p.1.map kV))/\RelV p.2 q.2.2
theorem KT.val {H:Hp}{kvs:List (List Key × V)}{xs:List (List Key × Addr × Value)}(r:KT H kvs xs)(k:List Key):RelO (valV kvs k) ((atKey xs k).map (·.2)):=by
 induction r with
 | nil=>exact True.intro
 | @cons p q ps qs h t ih =>
  obtain⟨h1,_,h2⟩:=h
  by_cases e:p.1=k
  ·have e':q.1=k:=h1.symm.trans e
   have b:atKey (q::qs) k=some q.2:=by simp[atKey,List.find?_cons,e']
   rw[Z1x e,b];exact h2
  ·have e':¬ q.1=k:=fun z=>e (h1.trans z)
   have b:atKey (q::qs) k=atKey qs k:=by simp[atKey,List.find?_cons,e']
   rw[Z1y e,b];exact ih
theorem KT.repl {H:Hp}{kvs:List (List Key × V)}{xs:List (List Key × Addr × Value)}(r:KT H kvs xs)(k:List Key){y:V}{u:Value}(ry:RelV y u) :
  KT H (kvs.map fun kv=>if kv.1=k then (kv.1,y) else kv) (xs.map (putAt k u)):=by
 induction r with
 | nil=>exact .nil
 | @cons p q ps qs h t ih =>
  rw[List.map_cons,List.map_cons]
  refine .cons ?_ ih
  obtain⟨h1,h2,h3⟩:=h
  unfold putAt
  by_cases e:p.1=k
  ·rw[if_pos e,if_pos (h1.symm.trans e)];exact⟨h1,h2,ry⟩
  ·rw[if_neg e,if_neg (fun z=>e (h1.trans z))];exact⟨h1,h2,h3⟩
theorem KT.put {H:Hp}{kvs:List (List Key × V)}{xs:List (List Key × Addr × Value)}(r:KT H kvs xs)(k:List Key){b:Addr}{y:V}{u:Value}(hb:H b=some (.tup (k.map kV)))(ry:RelV y u) :
  KT H (putK kvs k y) (storedH xs k b u):=by
 have e:(kvs.any fun kv=>decide (kv.1=k))=(atKey xs k).isSome:=by
  rw[Z3o,(r.val k).isSome_eq,Option.isSome_map]
 unfold putK storedH
 rw[e]
 by_cases q:(atKey xs k).isSome=true
 ·rw[if_pos q,if_pos q];exact r.repl k ry
 ·rw[if_neg q,if_neg q];exact Paired.snoc r ⟨rfl,hb,ry⟩
theorem KT.keeps {H H':Hp}{kvs:List (List Key × V)}{xs:List (List Key × Addr × Value)}(r:KT H kvs xs)(ht:∀ b ys,H b=some (.tup ys)->H' b=some (.tup ys)):KT H' kvs xs :=
 Paired.mapP r fun _ _ z=>⟨z.1,ht _ _ z.2.1,z.2.2⟩
section
variable {P:Program}{w:World}{H:Hp}{h:Heap}{a:Addr}
theorem X6r {u:HO}(ok:HOk P w H h)(e:Rd H a u):ObjOk P w H h a u:=e.ok ok
theorem Y8i {kvs:List (Key × V)}(ok:HOk P w H h)(e:Rd H a (.dK kvs)):kvs.length<=sizeLine/\(a == sysModules)=false/\∃ vs,KV kvs vs/\h.DictOf (Z1v P w) a vs :=
 show ObjOk P w H h a (.dK kvs) from X6r ok e
theorem X7y {kvs:List (Key × V)}(ok:HOk P w H h)(e:H a=some (.dK kvs)):kvs.length<=sizeLine/\(a == sysModules)=false/\∃ vs,KV kvs vs/\h.DictOf (Z1v P w) a vs:=Y8i ok (.inl e)
theorem Z7s {ks:List Key}(ok:HOk P w H h)(e:H a=some (.tup (ks.map kV))):(tupleKind (Z1v P w)).is h ks a:=by
 obtain⟨_,its,r,o,h1,h2,n,h3⟩:=(show ObjOk P w H h a (.tup (ks.map kV)) from ok a _ e)
 exact⟨o,its.toArray,n,h1,h2,h3,by simpa using Y0a r⟩
theorem Y8h {kvs:List (List Key × V)}(ok:HOk P w H h)(e:Rd H a (.dT kvs)):kvs.length<=sizeLine/\(a == sysModules)=false ∧
  ∃ xs,KT H kvs xs/\h.DictOfH (tupleKind (Z1v P w)) a xs:=by
 obtain⟨z,y,xs,r,o,es,ep,h1,h2,h3,h4,h5⟩:=(show ObjOk P w H h a (.dT kvs) from X6r ok e)
 refine⟨z,y,xs,r,o,es,ep,h1,h2,h3,h4,fun x hx=>?_,h5⟩
 have all:∀ {l:List (List Key × V)}{m:List (List Key × Addr × Value)},KT H l m->∀ x∈m,(tupleKind (Z1v P w)).is h x.1 x.2.1:=by
  intro l m q
  induction q with
  | nil=>intro x hx;exact nomatch hx
  | @cons p q ps qs hq t ih =>
   intro x hx
   rcases List.mem_cons.mp hx with e | hx
   ·subst e
    exact Z7s ok (by rw[<-hq.1];exact hq.2.1)
   ·exact ih x hx
 exact all r x hx
theorem X7x {kvs:List (List Key × V)}(ok:HOk P w H h)(e:H a=some (.dT kvs)):kvs.length<=sizeLine/\(a == sysModules)=false ∧
  ∃ xs,KT H kvs xs/\h.DictOfH (tupleKind (Z1v P w)) a xs:=Y8h ok (.inl e)
end
def DGet (H:Hp)(a:Addr)(y:V)(r:Option V):Prop :=
 (∃ kvs k,Rd H a (.dK kvs)/\y=kV k/\r=valV kvs k)∨∃ kvs k b,Rd H a (.dT kvs)/\y=.ref b/\H b=some (.tup (k.map kV))/\r=valV kvs k
def DPut (H:Hp)(a:Addr)(y v:V)(H':Hp):Prop :=
 (∃ kvs k,H a=some (.dK kvs)/\y=kV k/\kvs.length<sizeLine/\H'=upd H a (.dK (putK kvs k v))) ∨
 ∃ kvs k b,H a=some (.dT kvs)/\y=.ref b/\H b=some (.tup (k.map kV))/\kvs.length<sizeLine/\H'=upd H a (.dT (putK kvs k v))
theorem DGet.k {H:Hp}{a:Addr}{kvs:List (Key × V)}{k:Key}(e:H a=some (.dK kvs)):DGet H a (kV k) (valV kvs k):=.inl ⟨kvs,k,.inl e,rfl,rfl⟩
theorem DGet.t {H:Hp}{a b:Addr}{kvs:List (List Key × V)}{k:List Key}(e:H a=some (.dT kvs))(eb:H b=some (.tup (k.map kV))):DGet H a (.ref b) (valV kvs k):=.inr ⟨kvs,k,b,.inl e,rfl,eb,rfl⟩
theorem DPut.k {H:Hp}{a:Addr}{kvs:List (Key × V)}{k:Key}{v:V}(e:H a=some (.dK kvs))(hl:kvs.length<sizeLine):DPut H a (kV k) v (upd H a (.dK (putK kvs k v))):=.inl ⟨kvs,k,e,rfl,hl,rfl⟩
theorem DPut.t {H:Hp}{a b:Addr}{kvs:List (List Key × V)}{k:List Key}{v:V}(e:H a=some (.dT kvs))(eb:H b=some (.tup (k.map kV)))(hl:kvs.length<sizeLine) :
  DPut H a (.ref b) v (upd H a (.dT (putK kvs k v))):=.inr ⟨kvs,k,b,e,rfl,eb,hl,rfl⟩
section
variable {X:Cx}{pins:List (Addr × Obj)}{σ:St}{H:Hp}{s:Shared}{a:Addr}{y v:V}{u r:Value}{o:Option V}{A:Around}{E:Value->Shared->Prop}
theorem Inv.big (I:Inv X pins σ H s):sysModules<s.heap.objs.size:=by
 have h:mainGlobals<s.heap.objs.size:=(I.mod.glob.keeps I.bk).lt
 exact Nat.lt_trans (by decide) h
theorem Y8n {Q:Value->Shared->Prop}(hu:A.units+1<cLine)(I:Inv X pins σ H s)(g:DGet H a y (some v))(ry:RelV y u)(h:∀ w' s',Inv X pins σ H s'->RelV v w'->Q w' s') :
  wpAny (model X.prog X.w) A (getItem (.ref a) u) Q E s:=by
 rcases g with ⟨kvs,k,e,ey,l⟩ | ⟨kvs,k,b,e,ey,eb,l⟩
 ·subst ey
  obtain⟨z,hd,vs,rel,dd⟩:=Y8i I.hok e
  obtain⟨w',hw,rw'⟩:=RelO.some_of (v:=v) (o:=valueAt vs k) (by rw[l];exact rel.val k)
  exact wpAny_getItem_of (Y1p ry) dd.mapOf hw (h w' _ (I.tok _) rw')
 ·subst ey
  cases (show u=Value.ref b from ry)
  obtain⟨z,hd,xs,rel,dd⟩:=Y8h I.hok e
  obtain⟨w',hw,rw'⟩:=RelO.some_of (v:=v) (o:=(atKey xs k).map (·.2)) (by rw[l];exact rel.val k)
  obtain⟨p,hp,hp2⟩:=Option.map_eq_some_iff.mp hw
  refine wpAny_getItem_heap (tupleKind_room_in1 hu) (Z7s I.hok eb) dd hp ?_
  rw[hp2]
  exact h w' _ (I.tok _) rw'
theorem d_in {Q:Value->Shared->Prop}(hu:A.units+1<cLine)(I:Inv X pins σ H s)(g:DGet H a y o)(ry:RelV y u)(h:∀ s',Inv X pins σ H s'->Q (.bool o.isSome) s') :
  wpAny (model X.prog X.w) A (compareOp .In u (.ref a)) Q E s:=by
 rcases g with ⟨kvs,k,e,ey,l⟩ | ⟨kvs,k,b,e,ey,eb,l⟩
 ·subst ey
  obtain⟨z,hd,vs,rel,dd⟩:=Y8i I.hok e
  refine wpAny_in_of (Y1p ry) hd dd.mapOf ?_
  rw[<-(rel.val k).isSome_eq,<-l]
  exact h _ (I.tok _)
 ·subst ey
  cases (show u=Value.ref b from ry)
  obtain⟨z,hd,xs,rel,dd⟩:=Y8h I.hok e
  refine wpAny_in_heap (tupleKind_room_in1 hu) (Z7s I.hok eb) hd dd ?_
  have q:=(rel.val k).isSome_eq
  rw[Option.isSome_map] at q
  rw[<-q,<-l]
  exact h _ (I.tok _)
theorem X5r {Q:Value->Shared->Prop}(hu:A.units+1<cLine)(I:Inv X pins σ H s)(g:DGet H a y o)(ry:RelV y u)(h:∀ s',Inv X pins σ H s'->Q (.bool (!o.isSome)) s') :
  wpAny (model X.prog X.w) A (compareOp .NotIn u (.ref a)) Q E s:=by
 rcases g with ⟨kvs,k,e,ey,l⟩ | ⟨kvs,k,b,e,ey,eb,l⟩
 ·subst ey
  obtain⟨z,hd,vs,rel,dd⟩:=Y8i I.hok e
  refine wpAny_notIn_of (Y1p ry) hd dd.mapOf ?_
  rw[<-(rel.val k).isSome_eq,<-l]
  exact h _ (I.tok _)
 ·subst ey
  cases (show u=Value.ref b from ry)
  obtain⟨z,hd,xs,rel,dd⟩:=Y8h I.hok e
  refine wpAny_notIn_heap (tupleKind_room_in1 hu) (Z7s I.hok eb) hd dd ?_
  have q:=(rel.val k).isSome_eq
  rw[Option.isSome_map] at q
  rw[<-q,<-l]
  exact h _ (I.tok _)
theorem Y1s {h':Heap}{t':Nat}{ob:HO}(I:Inv X pins σ H s)(mu:Mut (H a))(hs:Heap.SameBut a s.heap h')(he:∃ q,h'.get? a=some q)(new:ObjOk X.prog X.w (upd H a ob) h' a ob) :
  Inv X pins σ (upd H a ob) { s with heap:=h',toks:=t' } :=
 I.write (x:=a) (e:=a) mu (.inl rfl) (fun b q hb z=>(hs.2 b hb).trans z) he new
theorem X7z {P:Program}{w:World}{H':Hp}{h':Heap}{kvs:List (Key × V)}{vs:List (Key × Value)}(z:kvs.length<=sizeLine)(hd:(a == sysModules)=false)(rel:KV kvs vs)(dd:h'.DictOf (Z1v P w) a vs) :
  ObjOk P w H' h' a (.dK kvs):=⟨z,hd,vs,rel,dd⟩
theorem Y8m {H':Hp}{Q:Unit->Shared->Prop}(hu:A.units+1<cLine)(I:Inv X pins σ H s)(g:DPut H a y v H')(ry:RelV y u)(rv:RelV v r)(h:∀ s',Inv X pins σ H' s'->Q () s') :
  wpAny (model X.prog X.w) A (setItem (.ref a) u r) Q E s:=by
 rcases g with ⟨kvs,k,e,ey,l,eH⟩ | ⟨kvs,k,b,e,ey,eb,l,eH⟩
 ·subst ey eH
  obtain⟨z,hd,vs,rel,dd⟩:=X7y I.hok e
  have hz:vs.length<=sizeLine:=by rw[<-rel.length];exact z
  have hl:(putK kvs k v).length<=sizeLine:=by have:=Z4t kvs k v;omega
  refine wpAny_setItem_pairs (hsz:=hz) (Y1p ry) dd fun h' dd' hs=>h _ ?_
  have he:∃ q,h'.get? a=some q:=let ⟨q,_,_,hq,_⟩:=dd';⟨q,hq⟩
  exact Y1s I (by rw[e];exact True.intro) hs he (X7z hl hd (rel.put k rv) dd')
 ·subst ey eH
  cases (show u=Value.ref b from ry)
  obtain⟨z,hd,xs,rel,dd⟩:=X7x I.hok e
  have hz:xs.length<=sizeLine:=by rw[<-Paired.length rel];exact z
  have hl:(putK kvs k v).length<=sizeLine:=by have:=Z4t kvs k v;omega
  refine wpAny_setItem_heap (hsz:=hz) (tupleKind_room_in1 hu) (Z7s I.hok eb) dd fun h' dd' hs=>h _ ?_
  obtain⟨q,es,ep,hq,h2,h3,h4,_,h5⟩:=dd'
  refine Y1s I (by rw[e];exact True.intro) hs ⟨q,hq⟩ ⟨hl,hd,_,(rel.put k eb rv).keeps fun c ys ec=>?_,q,es,ep,hq,h2,h3,h4,h5⟩
  rw[Z0x (Z5o ec e (fun z=>nomatch z))]
  exact ec
end
section
variable {X:Cx}{pins:List (Addr × Obj)}{σ:St}{H:Hp}{s:Shared}{a:Addr}{kvs:List (Key × V)}{k:Key}{u:Value}{A:Around}{E:Value->Shared->Prop}
end
def NoSl (i:Expr):Prop:=∀ ov iv,subscripted i false ov iv=operate [ov,iv] (getItem ov iv)
theorem Y5k {prog:Program}{w:World}{A:Around}{E:Value->Shared->Prop}{s:Shared}{env:Env}{value slice:Expr}{pos:Pos}{T id:String}{Q:Value->Shared->Prop}
  (hl:typeLookup (.type T) "__getitem__"=pure (some (.builtin id))) (hs:NoSl slice)
  (h:wpAny (model prog w) A (eval value env) (fun o s₁=>wpAny (model prog w) A (eval slice env) (fun i s₂=>s₂.TypeIs o T/\wpAny (model prog w) A (getItem o i) Q E s₂) E s₁) E s) :
  wpAny (model prog w) A (eval (.Subscript value slice pos) env) Q E s:=by
 refine Subscript_ (wpAny_mono h (fun o s₁ h₁=>wpAny_mono h₁ (fun i s₂ h₂=>?_) fun _ _ x=>x) fun _ _ x=>x)
 obtain⟨hT,h₂⟩:=h₂
 unfold subscriptTail
 refine wpAny_bind ?_
 rw[getitemInPython_of_ne hT.not_modules]
 refine wpAny_bind (wpAny_specialOf hT hl ?_)
 have fin:wpAny (model prog w) A (subscripted slice false o i) (fun r s₃=>wpAny (model prog w) A (letTemporaryGo value o r >>= fun _=>pure r) Q E s₃) E s₂:=by
  rw[hs o i]
  exact wpAny_operating (wpAny_mono h₂ (fun r s₃ h₃=>wpAny_bind (wpAny_letTemporaryGo (wpAny_pure h₃))) fun _ _ x=>x)
 first
  | exact wpAny_pure (wpAny_bind fin)
  | exact wpAny_bind (wpAny_pure (wpAny_bind fin))
  | exact wpAny_bind fin
theorem Y1r {X:Cx}{pins:List (Addr × Obj)}{σ:St}{H:Hp}{s:Shared}{a:Addr}{y:V}{o:Option V}(I:Inv X pins σ H s)(g:DGet H a y o):s.TypeIs (.ref a) "dict":=by
 rcases g with ⟨kvs,k,e,_,_⟩ | ⟨kvs,k,b,e,_,_,_⟩
 ·obtain⟨_,_,vs,_,dd⟩:=Y8i I.hok e
  exact dd.typeIs
 ·obtain⟨_,_,xs,_,dd⟩:=Y8h I.hok e
  exact dd.typeIs
def tDGet (td ty:TE):TE:=fun σ H Q=>td σ H fun x H1=>ty σ H1 fun y H2=>∃ a v,x=.ref a/\DGet H2 a y (some v)/\Q v H2
def tDIn (ty td:TE):TE:=fun σ H Q=>ty σ H fun y H1=>td σ H1 fun x H2=>∃ a o,x=.ref a/\DGet H2 a y o/\Q (.bl o.isSome) H2
def X3e (ty td:TE):TE:=fun σ H Q=>ty σ H fun y H1=>td σ H1 fun x H2=>∃ a o,x=.ref a/\DGet H2 a y o/\Q (.bl (!o.isSome)) H2
def sDPut (td ty tv:TE):TS:=fun D σ H=>tv σ H fun v H1=>td σ H1 fun x H2=>ty σ H2 fun y H3=>∃ a H4,x=.ref a/\DPut H3 a y v H4/\D.nx σ H4
section
variable {X:Cx}{o i e value:Expr}{pos pos' tpos:Pos}{td ty tv:TE}
theorem Y6i (hu:X.A.units+1<cLine)(ho:PE X o td)(hi:PE X i ty)(hs:NoSl i):PE X (.Subscript o i pos) (tDGet td ty):=by
 intro pins s σ H Q I h
 refine Y5k PySem.F.slot_dict_getitem.lookup hs (thn (ho pins s σ H _ I h) fun u s1 ⟨x,H1,I1,rx,q1⟩=>thn (hi pins s1 σ H1 _ I1 q1) fun iv s2 ⟨y,H2,I2,ry,a,v,ex,g,q2⟩=>?_)
 subst ex
 obtain rfl:u=Value.ref a:=rx
 exact⟨Y1r I2 g,Y8n hu I2 g ry fun w' s3 I3 rw'=>⟨v,H2,I3,rw',q2⟩⟩
theorem X6v (hu:X.A.units+1<cLine)(hi:PE X i ty)(ho:PE X o td):PC X .In i o (tDIn ty td):=by
 intro pins s σ H Q I h
 refine thn (hi pins s σ H _ I h) fun iv s1 ⟨y,H1,I1,ry,q1⟩=>thn (ho pins s1 σ H1 _ I1 q1) fun u s2 ⟨x,H2,I2,rx,a,ov,ex,g,q2⟩=>?_
 subst ex
 obtain rfl:u=Value.ref a:=rx
 exact d_in hu I2 g ry fun s3 I3=>⟨.bl ov.isSome,H2,I3,rfl,q2⟩
theorem Y6n (hu:X.A.units+1<cLine)(hi:PE X i ty)(ho:PE X o td):PC X .NotIn i o (X3e ty td):=by
 intro pins s σ H Q I h
 refine thn (hi pins s σ H _ I h) fun iv s1 ⟨y,H1,I1,ry,q1⟩=>thn (ho pins s1 σ H1 _ I1 q1) fun u s2 ⟨x,H2,I2,rx,a,ov,ex,g,q2⟩=>?_
 subst ex
 obtain rfl:u=Value.ref a:=rx
 exact X5r hu I2 g ry fun s3 I3=>⟨.bl (!ov.isSome),H2,I3,rfl,q2⟩
theorem Y6g (hu:X.A.units+1<cLine)(ho:PE X o td)(hi:PE X i ty)(hv:PE X value tv)(hs:swapsWith value (some (.Subscript o i pos')) pos.line X.env=pure false) :
  PS X (.Assign [.Subscript o i pos'] value pos) (sDPut td ty tv):=by
 intro pins s σ H D I h
 refine wpAny_Assign_Subscript (thn (hv pins s σ H _ I h) fun r s1 ⟨v,H1,I1,rv,q1⟩=>thn (ho pins s1 σ H1 _ I1 q1) fun u s2 ⟨x,H2,I2,rx,q2⟩=>thn (hi pins s2 σ H2 _ I2 q2) fun iv s3 ⟨y,H3,I3,ry,a,H4,ex,g,q3⟩=>?_) hs
 subst ex
 obtain rfl:u=Value.ref a:=rx
 exact Y8m hu I3 g ry rv fun s4 I4=>⟨σ,H4,I4,q3⟩
end
theorem X1l {P:Program}{w:World}{H:Hp}(h:Heap)(hb:sysModules<h.objs.size):ObjOk P w H (h.push { cls:=.type "dict",data:=.dict #[] }) h.objs.size (.dK []) :=
 ⟨Nat.zero_le _,beq_eq_false_iff_ne.mpr (Ne.symm (Nat.ne_of_lt hb)),[],.nil,Heap.DictOf.new h⟩
theorem X1k {P:Program}{w:World}{H:Hp}(h:Heap)(hb:sysModules<h.objs.size):ObjOk P w H (h.push { cls:=.type "dict",data:=.dict #[] }) h.objs.size (.dT []) :=
 ⟨Nat.zero_le _,beq_eq_false_iff_ne.mpr (Ne.symm (Nat.ne_of_lt hb)),[],.nil,_,#[],0,Heap.get?_push_size _ rfl,⟨rfl,rfl,rfl⟩,rfl,rfl,List.nodup_nil⟩
def tDNewK:TE:=fun _ H Q=>∀ p,H p=none->Q (.ref p) (upd H p (.dK []))
section
variable {X:Cx}{pos:Pos}
theorem Y9v:PE X (.Dict [] [] pos) tDNewK:=fun pins s σ H Q I h =>
 wpAny_Dict_empty ⟨.ref s.heap.objs.size,_,I.laid (a:=s.heap.objs.size) (o:=.dK []) (t':=s.toks) (fun _ _ q=>Heap.get?_push_of_some _ q) (Nat.le_refl _) (X1l s.heap I.big),rfl,h _ (I.hok.fresh (Nat.le_refl _))⟩
end
def tPairs:List (TE × TE)->St->Hp->(List (V × V)->Hp->Prop)->Prop
 | [],_,H,Q=>Q [] H
 | (tk,tv)::r,σ,H,Q=>tk σ H fun x H1=>tv σ H1 fun y H2=>tPairs r σ H2 fun ps H3=>Q ((x,y)::ps) H3
abbrev VV:List (V × V)->List (Value × Value)->Prop:=Paired fun p q=>RelV p.1 q.1/\RelV p.2 q.2
def PPs (X:Cx)(pos:Pos)(keys:List (Option Expr))(values:List Expr)(trs:List (TE × TE)):Prop :=
 ∀ (pins:List (Addr × Obj)) (s:Shared) (σ:St) (H:Hp) (Q:List (V × V)->Hp->Prop),Inv X pins σ H s->tPairs trs σ H Q →
  wpAny (model X.prog X.w) X.A (evalPairs (pairTrees keys values X.env pos)) (fun vs s'=>∃ ps H',Inv X pins σ H' s'/\VV ps vs/\Q ps H') X.xe s
theorem X3o {X:Cx}{pos:Pos}:PPs X pos [] [] []:=fun pins s σ H Q I h=>pairTrees_nil_walk ⟨[],H,I,.nil,h⟩
theorem Y9r {X:Cx}{pos:Pos}{k v:Expr}{ks:List (Option Expr)}{vs:List Expr}{tk tv:TE}{trs:List (TE × TE)}(hk:PE X k tk)(hv:PE X v tv)(hr:PPs X pos ks vs trs) :
  PPs X pos (some k::ks) (v::vs) ((tk,tv)::trs):=fun pins s σ H Q I h =>
 pairTrees_cons_walk (thn (hk pins s σ H _ I h) fun u s1 ⟨x,H1,I1,rx,q1⟩=>thn (hv pins s1 σ H1 _ I1 q1) fun w2 s2 ⟨y,H2,I2,ry,q2⟩ =>
  thn (hr pins s2 σ H2 _ I2 q2) fun ws s3 ⟨ps,H3,I3,rel,q3⟩=>⟨(x,y)::ps,H3,I3,.cons ⟨rx,ry⟩ rel,q3⟩)
section
variable {X:Cx}{pins:List (Addr × Obj)}{σ:St}{H:Hp}{s:Shared}{a:Addr}{y d:V}{u r:Value}{o:Option V}{A:Around}{E:Value->Shared->Prop}
end
section
variable {X:Cx}{o e f:Expr}{apos cpos:Pos}{td ty tx:TE}
end
end L2
namespace L2
open PySem PySem.Spec PyProof.Rows
def CMulG (i j:Int):Prop:=∃ a b,Sz a i/\Sz b j/\a+b<=100000000
theorem CMulG.ok {i j:Int}(h:CMulG i j):IntMulOk i j:=by
 obtain⟨a,b,h1,h2,h3⟩:=h
 have e1:=h1.bits
 have e2:=h2.bits
 unfold IntMulOk
 rw[show Builtin.Int.intTooBig (Builtin.Int.intBits i+Builtin.Int.intBits j)=false by
  unfold Builtin.Int.intTooBig
  have:bitsLine=134217728:=rfl
  rw[this]
  exact decide_eq_false (by omega)]
 simp
section
variable {X:Cx}
theorem Z4r:OpR X (binaryOp .Mult) (rI CMulG fun i j=>.int (i*j)):=opI fun _ _ _ _ _ _ _ hc q=>mul_int q hc.ok
theorem Z2h (hc:X.calm=true):CallR X (.builtin "all") (fun xs H Q=>∃ (p:Addr) (bs:List Bool),xs=[.ref p]/\SqL X.K H p (bs.map V.bl)/\Q (.bl (bs.all id)) H):=by
 intro pins s σ H xs us Q I r h
 obtain⟨p,bs,rfl,hq,q⟩:=h
 obtain⟨u,rfl,ru⟩:=r.one
 cases ru
 obtain⟨its,rv,pl,hz⟩:=I.list hq
 have hlen:its.length=bs.length:=by rw[<-rv.length,List.length_map]
 refine call_all_walk (wpAny_pyIter_list pl.isList ?_)
 have W:=Walks.list (prog:=X.prog) (w:=X.w) (A:=X.A.in1) (show X.A.in1.handled=none from I.ok.hd hc) s.heap.objs.size p (by
  obtain⟨o,e,_⟩:=pl.isList
  exact Nat.ne_of_lt (Heap.lt_size e)) its.toArray
 refine⟨s.heap.objs.size,_,_,_,_,_,fun i=>bs.getD i false,rfl,W,⟨⟨_,Heap.get?_push_size _ rfl,rfl,rfl⟩,pl.isList.push _⟩,?_,fun h' tk hk=>?_⟩
 ·intro i v s' Q' E' hv hQ
  have hv':its[i]?=some v:=by simpa using hv
  have hi:i<bs.length:=by rw[<-hlen];exact(List.getElem?_eq_some_iff.mp hv').1
  obtain⟨u,hu,ru⟩:=rv.get (show (bs.map V.bl)[i]?=some (.bl (bs.getD i false)) by simp[hi])
  rw[hv'] at hu
  cases hu
  cases ru
  exact wpAny_truthy_bool hQ
 ·have e:(List.range its.toArray.size).all (fun i=>bs.getD i false)=bs.all id:=by
   rw[List.size_toArray,hlen,Bool.eq_iff_iff,List.all_eq_true,List.all_eq_true]
   constructor
   ·intro z b hb
    obtain⟨i,hi,rfl⟩:=List.mem_iff_getElem.mp hb
    have:=z i (List.mem_range.mpr hi)
    simpa [hi] using this
   ·intro z i hi
    have hi':i<bs.length:=List.mem_range.mp hi
    have:=z bs[i] (List.getElem_mem hi')
    simpa [hi'] using this
  rw[e]
  refine⟨.bl (bs.all id),H,?_,rfl,q⟩
  exact I.kept (t':=tk) fun b o eo=>hk b o (by simp;exact Nat.ne_of_lt (Heap.lt_size eo)) (Heap.get?_push_of_some _ eo)
end
section
variable {P:Program}{w:World}{H:Hp}{h:Heap}
def Rows5 (H:Hp):List Addr->List (List Int)->Prop:=Paired fun p ns=>H p=some (.tup (ns.map V.int))
theorem Z4x (ok:HOk P w H h):∀ {ps:List Addr}{xs:List (List Int)}{us:List Value},Rows5 H ps xs->Vals (ps.map V.ref) us->∃ as,ReadsAll h us (xs.map fun ns=>PyData.tuple (ns.map PyData.int)) as
 | [],[],us,.nil,r=>by cases r;exact⟨[],.nil⟩
 | p::ps,ns::xs,us,.cons e r,rv=>by
  cases rv with
  | cons ru rr =>
   cases ru
   obtain⟨as,ha⟩:=Z4x ok r rr
   obtain⟨_,its,rv',ht⟩:=(show ObjOk P w H h p (.tup (ns.map V.int)) from ok p _ e)
   exact⟨_,.cons (Z3m ht (Z1w rv')) ha⟩
end
section
variable {X:Cx}
theorem Z7c:∀ xs:List (List Int),PyData.canLayAll0 (xs.map fun ns=>PyData.tuple (ns.map PyData.int))=true
 | []=>by simp[PyData.canLayAll0]
 | n::r=>by simp[PyData.canLayAll0,PyData.canLay0,Z7c r,PySem.W.canLayAll0_ints n]
theorem Z7w:∀ xs:List (List Int),PyData.depthAll (xs.map fun ns=>PyData.tuple (ns.map PyData.int))<=2
 | []=>by simp[PyData.depthAll]
 | n::r=>by
  have h1:=Z7w r
  have h2:=PySem.W.depthAll_ints n
  simp only[List.map_cons,PyData.depthAll,PyData.depth]
  omega
theorem Z6n (xs:List (List Int)):SeqAt.shaped (.list (xs.map fun ns=>PyData.tuple (ns.map PyData.int)))=true:=by
 have h2:PyData.depth (.list (xs.map fun ns=>PyData.tuple (ns.map PyData.int)))<=64:=by
  have:=Z7w xs
  simp only[PyData.depth]
  omega
 show (PyData.canLay0 _ && decide _)=true
 rw[Bool.and_eq_true]
 exact⟨by simp only[PyData.canLay0];exact Z7c xs,decide_eq_true h2⟩
theorem Z7r:∀ xs ys:List (List Int),SeqAt.noMixAll (xs.map fun ns=>PyData.tuple (ns.map PyData.int)) (ys.map fun ns=>PyData.tuple (ns.map PyData.int))=true
 | [],[]=>by simp[SeqAt.noMixAll]
 | [],_::_=>by simp[SeqAt.noMixAll]
 | _::_,[]=>by simp[SeqAt.noMixAll]
 | n::r,m::q=>by
  simp only[List.map_cons,SeqAt.noMixAll,SeqAt.noMix,Bool.and_eq_true]
  exact⟨PySem.W.noMix_ints n m,Z7r r q⟩
theorem Z9o:∀ xs ys:List (List Int),PySem.Spec.sameAll (xs.map fun ns=>PyData.tuple (ns.map PyData.int)) (ys.map fun ns=>PyData.tuple (ns.map PyData.int))=decide (xs=ys)
 | [],[]=>by simp[PySem.Spec.sameAll]
 | [],_::_=>by simp[PySem.Spec.sameAll]
 | _::_,[]=>by simp[PySem.Spec.sameAll]
 | n::r,m::q=>by
  simp only[List.map_cons,PySem.Spec.sameAll,PySem.Spec.same,PySem.W.same_ints,Z9o r q]
  by_cases e:n=m<;>simp[e]
def rEqLT (neg:Bool):R2:=fun x y H Q=>∃ (a b:Addr) (ps qs:List Addr) (xs ys:List (List Int)),x=.ref a/\y=.ref b/\H a=some (.lst (ps.map V.ref))/\H b=some (.lst (qs.map V.ref))/\Rows5 H ps xs/\Rows5 H qs ys/\Q (.bl (if neg then !decide (xs=ys) else decide (xs=ys))) H
theorem Z6p {pins:List (Addr × Obj)}{σ:St}{H:Hp}{s:Shared}(I:Inv X pins σ H s){a:Addr}{ps:List Addr}{xs:List (List Int)}(h:H a=some (.lst (ps.map V.ref)))(r:Rows5 H ps xs):∃ as,Reads s.heap (.ref a) (.list (xs.map fun ns=>PyData.tuple (ns.map PyData.int))) as:=by
 obtain⟨its,rv,pl,_⟩:=I.list (SqL.of h)
 obtain⟨as,ha⟩:=Z4x I.hok r rv
 obtain⟨o,ho,hc,n,hd⟩:=pl.isList
 exact⟨_,Reads.list ho hc hd (by simpa using ha)⟩
theorem X3y (hu:X.A.units+64<cLine):OpR X (compareOp .Eq) (rEqLT false):=by
 intro pins s σ H x y v u Q I rx ry h
 obtain⟨a,b,ps,qs,xs,ys,rfl,rfl,h1,h2,r1,r2,q⟩:=h
 cases rx;cases ry
 obtain⟨as,ra⟩:=Z6p I h1 r1
 obtain⟨bs,rb⟩:=Z6p I h2 r2
 refine eq_dataH_same ra rb (Z6n xs) (Z6n ys) hu (by simp only[SeqAt.noMix];exact Z7r xs ys) ⟨.bl (decide (xs=ys)),H,I,?_,q⟩
 show _=_
 simp only[PySem.Spec.same]
 rw[Z9o]
end
section
variable {X:Cx}{scope:Scope}{Nc:List Str}{ex:List Addr}{pins:List (Addr × Obj)}{s:Shared}{H:Hp}
theorem Z8l (hu:X.A.units+64<cLine):OpR (cxLc X scope Nc ex pins s H) (compareOp .Eq) (rEqTI X.K false):=Y1g hu
end
end L2
namespace L2
open PySem PySem.W PySem.Calls PySem.Spec PyProof.Rows
def Light (ns:List Int):Prop:=∀ n∈ns,Sz 1048576 n
theorem Z5w:∀ {ns:List Int}{W:Nat},WData.weightAll (ns.map WData.int)<=W->∀ n∈ns,Sz W n
 | m::r,W,h,n,hn=>by
  simp only[List.map_cons,WData.weightAll,WData.weight] at h
  rcases List.mem_cons.mp hn with rfl | hn
  ·unfold Sz
   by_cases z:n=0
   ·subst z;exact Nat.two_pow_pos _
   ·have zb:(n == 0)=false:=by simpa using z
    rw[zb,if_neg (by simp)] at h
    have h1:n.natAbs.log2<W:=by omega
    exact(Nat.log2_lt (by omega)).mp h1
  ·exact Z5w (W:=W) (by omega) n hn
theorem X0v {ns:List Int}(h:WData.layableAll [WData.list (ns.map WData.int)]=true):Light ns:=by
 simp only[WData.layableAll,List.all_cons,List.all_nil,Bool.and_true,WData.layable,Bool.and_eq_true,decide_eq_true_eq] at h
 exact Z5w (W:=1048576) (by have:=h.2;simpa [WData.weight] using this)
theorem Y0o {l:OpenLaw}{n:Nat}{q:Program}{loose:List Str}{XP:(Str->Option Value)->Heap->Prop}{YP:World->Heap->Prop}{d:DefRec}
  (hn:l.most=some n) (hdf:d.params.defaults=[])
  (call:∀ (w:World) (s₀ s₁:Shared) (mg mb:Str->Option Value) (fa:Addr) (o:Obj) (pm cd doc:Value) (a:Addr) (vs:List Value) (ns:List Int),Light ns →
   Ground q loose [] XP w s₀ mg mb s₁.heap->YP w s₁.heap →
   s₁.heap.get? fa=some o->o.data=.func (docDef d.name d.params d.body d.scope pm cd doc)->s₁.heap.CodeRec cd d.name->mg d.name=some (.ref fa) →
   s₁.heap.get? a=some { cls:=.type "list",data:=.seq vs.toArray }->IntsAre vs ns->ns.length<=n->s₁.gens=#[] →
   codeAny (model l.prog w) callerA (.call (.ref fa) ⟨[.ref a],[]⟩) (fun r s'=>r=.ok (.ret (.bool true))/\OldK s₁.heap s'.heap/\s'.os=s₁.os/\AllBare s'.gens) s₁) :
  WalkO q loose XP YP l.row.toRowW d [] (fun f vs=>PySem.call f vs):=by
 intro w s₀ s₁ mg mb G Y fa o pm cd doc dV kV ho hd hcd hD hmg hg args vals as hpre hlay hrd hwl hlo
 obtain rfl:dV=.none:=Dflts.none hD hdf
 obtain rfl:kV=.none:=Dflts.noKw hD
 obtain⟨a,vs,ns,rfl,rfl,hobj,hints,hlen⟩:=Att.Y6b hn hpre hwl
 refine enter_call (codeAny_mono (call w s₀ s₁ mg mb fa o pm cd doc a vs ns (X0v hlay) G Y ho (fd_plain hd) hcd hmg hobj hints hlen hg) fun r s' hq=>?_)
 obtain⟨rfl,h2,h3,h4⟩:=hq
 exact⟨.inl ⟨.bool true,.bool true,[],rfl,fun _=>rfl,.bool true,Att.Y6h l _,fun _=>⟨List.Pairwise.nil,fun _ hm=>(nomatch hm)⟩⟩,h2,h3,h4⟩
theorem Y4i {l:PySem.W.OpenLaw}{n k:Nat}{q:Program}{loose:List Str}{XP:(Str->Option Value)->Heap->Prop}{YP:World->Heap->Prop}{d:DefRec}{K:Params->PySem.W.Frag}{CX:World->CXT}{sp:World->Sp}{x:Str}
  (hn:l.most=some n) (hn2:n<=sizeLine) (hdf:d.params.defaults=[]) (hr:Room k callerA)
  (hY:∀ (w:World) (h:Heap),YP w h->(K w.params).In h)
  (F:∀ (w:World) (mg:Str->Option Value) (fa:Addr) (h:Heap),(K w.params).In h->h.Ns mainGlobals mg->mg d.name=some (.ref fa) →
   ∃ fd:FuncData,(∀ (s:Shared) (u:Value),BindsTo s fd ⟨[u],[]⟩ [(x,u)]) ∧
    ∀ base:Heap,(K w.params).In base->base.Ns mainGlobals mg->FnOk l.prog w (K w.params) mg base (CX w) k fa fd [x] (sp w))
  (hsp:∀ (w:World) (H:Hp) (a:Addr) (ns:List Int),ns.length<=n->Light ns->SqL (K w.params) H a (ns.map V.int)->sp w [.ref a] H (fun v _=>v=.bl true) fun _ _ _=>False)
  (hCX:∀ (w:World) (H:Hp) (s:Shared) (e:Value) (s':Shared),CX w [] H s (fun _ _ _=>False) e s'->False) :
  PySem.W.WalkO q loose XP YP l.row.toRowW d [] (fun f vs=>PySem.call f vs):=by
 refine Y0o hn hdf fun w s₀ s₁ mg mb fa o pm cd doc a vs ns lt G Y ho hd hcd hmg hobj hints hlen hg=>?_
 have KX:=hY w _ Y
 obtain⟨fd,hb,hF⟩:=F w mg fa _ KX G.T.g hmg
 exact X1c KX G.T.g G.T.b G.T.builtins G.T.nolimit hg hobj hints (Nat.le_trans hlen hn2) hr hF hb (fun H _ hS=>hsp w H a ns hlen lt hS) fun H e s'=>hCX w H s₁ e s'
end L2
namespace Ba
open PySem PySem.Spec PyProof.Rows L2 Am Pc
abbrev T5 (a b c d h:Int):HO:=.tup [.int a,.int b,.int c,.int d,.int h]
structure Red (a b c d h x y z u g:Int):Prop where
 amt:Amt x y z u g
 same:Same4 a b c d h x y z u g
 s1:x.natAbs<=a.natAbs
 s2:y.natAbs<=b.natAbs
 s3:z.natAbs<=c.natAbs
 s4:u.natAbs<=d.natAbs
 le:g<=h
structure Sz4 (n:Nat) (a b c d:Int):Prop where
 z1:Sz n a
 z2:Sz n b
 z3:Sz n c
 z4:Sz n d
theorem Red.sz {a b c d h x y z u g:Int}{n:Nat}(r:Red a b c d h x y z u g)(s:Sz4 n a b c d):Sz4 n x y z u:=⟨s.z1.le r.s1,s.z2.le r.s2,s.z3.le r.s3,s.z4.le r.s4⟩
theorem Sz4.mono {m n:Nat}{a b c d:Int}(s:Sz4 m a b c d)(h:m<=n):Sz4 n a b c d:=⟨s.z1.mono h,s.z2.mono h,s.z3.mono h,s.z4.mono h⟩
def rot:Nat->Int × Int × Int × Int->Int × Int × Int × Int
 | 0,v=>v
 | n+1,v=>let (a,b,c,d):=rot n v;(-d,a,b,c)
abbrev T4 (v:Int × Int × Int × Int)(h:Int):HO:=T5 v.1 v.2.1 v.2.2.1 v.2.2.2 h
abbrev A5:=(Int × Int × Int × Int) × Int
abbrev tA (x:A5):HO:=T4 x.1 x.2
def spin (x:A5)(k:Int):A5:=(rot (k%8).toNat x.1,x.2)
structure Ok5 (n:Nat) (m:Int) (x:A5):Prop where
 sz:Sz4 n x.1.1 x.1.2.1 x.1.2.2.1 x.1.2.2.2
 amt:Amt x.1.1 x.1.2.1 x.1.2.2.1 x.1.2.2.2 x.2
 le:x.2<=m
theorem Ok5.mono {n n':Nat}{m m':Int}{x:A5}(o:Ok5 n m x)(h:n<=n')(h':m<=m'):Ok5 n' m' x:=⟨o.sz.mono h,o.amt,Int.le_trans o.le h'⟩
theorem Z9x {n:Nat}{m:Int}{v:Int × Int × Int × Int}{h:Int}(o:Ok5 n m (v,h)):∀ k,Ok5 n m (rot k v,h)
 | 0=>o
 | k+1=>by
  have:=Z9x o k
  show Ok5 n m ((-(rot k v).2.2.2,(rot k v).1,(rot k v).2.1,(rot k v).2.2.1),h)
  refine⟨⟨this.sz.z4.neg,this.sz.z1,this.sz.z2,this.sz.z3⟩,⟨this.amt.nn,?_⟩,this.le⟩
  have o:h=0∨(rot k v).1%2=1∨(rot k v).2.1%2=1∨(rot k v).2.2.1%2=1∨(rot k v).2.2.2%2=1:=this.amt.odd
  show h=0∨(-(rot k v).2.2.2)%2=1∨(rot k v).1%2=1∨(rot k v).2.1%2=1∨(rot k v).2.2.1%2=1
  omega
def Vals5 (H:Hp)(ps:List Addr)(f:Nat->A5):Prop:=∀ i p,ps[i]?=some p->H p=some (tA (f i))
theorem Vals5.same {H H':Hp}{ps:List Addr}{f:Nat->A5}(v:Vals5 H ps f)(s:Same H H'):Vals5 H' ps f:=fun i p e=>s _ _ (v i p e)
def l5 (x:A5):List Int:=[x.1.1,x.1.2.1,x.1.2.2.1,x.1.2.2.2,x.2]
structure Hv (a b c d h x y z u g:Int):Prop where
 same:Same4 a b c d h x y z u g
 s1:x.natAbs<=a.natAbs
 s2:y.natAbs<=b.natAbs
 s3:z.natAbs<=c.natAbs
 s4:u.natAbs<=d.natAbs
 le:g<=h
 nn:0<=g
theorem Hv.red {a b c d h x y z u g:Int}(v:Hv a b c d h x y z u g)(o:g=0∨x%2=1∨y%2=1∨z%2=1∨u%2=1):Red a b c d h x y z u g:=⟨⟨v.nn,o⟩,v.same,v.s1,v.s2,v.s3,v.s4,v.le⟩
theorem Z8s {x g:Int}(hx:x%2=0)(hg:0<g):Eq2 x g (x / 2) (g-1):=by
 unfold Eq2
 have e:p2 g=p2 (g-1)*2:=by rw[Z5v (a:=g) (b:=1) (by decide) (by omega)];rfl
 rw[e]
 have:x=2*(x / 2):=by omega
 generalize x / 2=y at *
 subst this
 grind
theorem Hv.half {a b c d h x y z u g:Int}(v:Hv a b c d h x y z u g)(hg:0<g)(e:x%2=0/\y%2=0/\z%2=0/\u%2=0):Hv a b c d h (x / 2) (y / 2) (z / 2) (u / 2) (g-1):=by
 obtain⟨e1,e2,e3,e4⟩:=e
 have:=v.s1;have:=v.s2;have:=v.s3;have:=v.s4;have:=v.le
 exact⟨v.same.trans ⟨Z8s e1 hg,Z8s e2 hg,Z8s e3 hg,Z8s e4 hg⟩,by omega,by omega,by omega,by omega,by omega,by omega⟩
theorem all4 {a b c d:Int}:(([a,b,c,d].map fun n=>decide (V.int (n%2)=V.int 0)).all id=true) ↔ (a%2=0/\b%2=0/\c%2=0/\d%2=0):=by
 have e:∀ n:Int,decide (V.int (n%2)=V.int 0)=true ↔ n%2=0:=fun n=>by rw[decide_eq_true_iff];exact⟨fun z=>V.int.inj z,fun z=>by rw[z]⟩
 simp only[List.map_cons,List.map_nil,List.all_cons,List.all_nil,id,Bool.and_true,Bool.and_eq_true,e]
abbrev M3 (q f s:Nat):HO:=.tup [.int q,.int f,.int s]
def cell (ns:List Int)(i:Int):Int:=if i<ns.length then ns.getD i.toNat 0 else 0
theorem Z8x {ns:List Int}(h:Light ns)(i:Int):Sz 1048576 (cell ns i):=by
 unfold cell
 have z0:Sz 1048576 0:=by unfold Sz;exact Nat.two_pow_pos _
 split
 ·rw[List.getD_eq_getElem?_getD]
  cases e:ns[i.toNat]? with
  | none=>exact z0
  | some n=>exact h n (List.mem_of_getElem? e)
 ·exact z0
def spSpin:Sp:=fun vs H Q _=>∃ (p:Addr) (x:A5) (k:Int),vs=[.ref p,.int k]/\H p=some (tA x)/\∀ (r:Addr) (H':Hp),Same H H'->H' r=some (tA (spin x k))->Q (.ref r) H'
def spOnes:Sp:=fun vs H Q _=>∃ n:Nat,vs=[.int n]/\Q (.int (pc n)) H
def spCell (K:PySem.W.Frag):Sp:=fun vs H Q _=>∃ (a:Addr) (ns:List Int) (i:Int),vs=[.ref a,.int i]/\SqL K H a (ns.map V.int)/\0<=i/\Q (.int (cell ns i)) H
def Z3d:Sp:=fun vs H Q _=>∃ i:Int,vs=[.int i]/\Q (.bl true) H
def Y5x:Sp:=fun vs H Q _=>∃ c:Int,vs=[.int c]/\∀ n:Nat,1<=n->n<=6->Q (.int n) H
def spLow:Sp:=fun vs H Q _=>∃ (l:Addr) (a b c d h:Int),vs=[.ref l,.int h]/\H l=some (.lst ([a,b,c,d].map V.int))/\0<=h/\∀ (p:Addr) (H':Hp) (x y z u g:Int),Same H H'->H' p=some (T5 x y z u g)->Red a b c d h x y z u g->Q (.ref p) H'
def Y0z:Sp:=fun vs H Q _=>∃ c:Int,vs=[.int c]/\Sz 1048600 c/\∀ (p:Addr) (H':Hp) (x:A5),Same H H'->H' p=some (tA x)->Ok5 100 40 x->Q (.ref p) H'
def Y2t:Sp:=fun vs H Q _=>∃ (c:Int) (n:Nat),vs=[.int c,.int n]/\n<=6/\∀ (r:Addr) (H':Hp) (q f s:Nat),Same H H'->H' r=some (M3 q f s)->q<4->f<2^n->s<2^n->Q (.ref r) H'
def spLaw (K:PySem.W.Frag)(n:Nat):Sp:=fun vs H Q _=>∃ (a:Addr) (ns:List Int),vs=[.ref a]/\SqL K H a (ns.map V.int)/\ns.length<=n/\Light ns/\∀ H',Q (.bl true) H'
theorem X2u {ns:List Int}{i:Int}(h0:0<=i)(h:i<ns.length):atI (ns.map V.int) i=some (.int (ns.getD i.toNat 0)):=by
 have hk:i.toNat<ns.length:=by omega
 have ek:i=((i.toNat:Nat):Int):=by omega
 have q:atI (ns.map V.int) ((i.toNat:Nat):Int)=some (.int ns[i.toNat]):=Z4k (by rw[List.getElem?_map,List.getElem?_eq_getElem hk]<;>rfl)
 rw[<-ek] at q
 rw[q,List.getD_eq_getElem?_getD,List.getElem?_eq_getElem hk]
 rfl
theorem t2:2<=sizeLine:=by decide
theorem t3:3<=sizeLine:=by decide
theorem t4:4<=sizeLine:=by decide
theorem t5:5<=sizeLine:=by decide
theorem t64 {n:Nat}(h:n<=64):n<=sizeLine:=Nat.le_trans h (by decide)
theorem pow6 {n:Nat}(h:n<=6):2^n<=64:=Nat.le_trans (Nat.pow_le_pow_right (by decide) h) (by decide)
theorem ipow (n:Nat):(1:Int)*2^((n:Int).toNat)=((2^n:Nat):Int):=by simp
theorem sz1:Sz 1 1:=by decide +kernel
theorem p_2:(0:Int)<2:=by decide
theorem p_3:(0:Int)<3:=by decide
theorem p_4:(0:Int)<4:=by decide
theorem p_6:(0:Int)<6:=by decide
theorem p_7:(0:Int)<7:=by decide
theorem p_8:(0:Int)<8:=by decide
theorem p_11:(0:Int)<11:=by decide
theorem p_40:(0:Int)<40:=by decide
theorem X3t:(0:Int)<2147483647:=by decide
theorem Y3r (K:PySem.W.Frag):PySem.W.kitOne K (.type "tuple") (.type "tuple")=some true:=by unfold PySem.W.kitOne;rw[if_pos (by decide)]
end Ba
namespace L2
open PySem PySem.Spec PyProof.Rows
theorem fS {N P:List Str}{sc:Scope}(a:sc.kind=.function:=by exact rfl)(b:sc.isCoroutine=false:=by exact rfl)(c:sc.isGenerator=false:=by exact rfl)(d:N.Nodup:=by decide +kernel)(e:N.take P.length=P:=by exact rfl)(f:∀ x∈P,sc.names.lookup x=some .local∨sc.names.lookup x=some .cell:=by decide +kernel)(g:∀ y∈sc.names,y.2≠.free:=by decide +kernel):FnScope N P sc:=⟨a,b,c,d,e,f,g⟩
end L2
namespace K62
open PySem PySem.Spec PyProof.Rows L2 Am Pc Ba
def top (i:Nat):Stmt:=PySem.Challenge.pw_spinboard_k62_whole_all_keepers.main.body.getD i (.Pass ⟨0,0,0,0⟩)
structure Bs (mg:Str->Option Value):Prop where
 isinstance:mg "isinstance"=none
 int:mg "int"=none
 bool:mg "bool"=none
 tuple:mg "tuple"=none
 list:mg "list"=none
 len:mg "len"=none
 range:mg "range"=none
 all:mg "all"=none
 any:mg "any"=none
 max:mg "max"=none
 min:mg "min"=none
 zip:mg "zip"=none
 set:mg "set"=none
 str:mg "str"=none
 enumerate:mg "enumerate"=none
 reversed:mg "reversed"=none
 sorted:mg "sorted"=none
 sum:mg "sum"=none
section
variable {P:Program}{w:World}{K:PySem.W.Frag}{mg:Str->Option Value}{base:Heap}{k:Nat}{h:Heap}
theorem sc_cell:FnScope ["_law_script","_law_k"] ["_law_script","_law_k"] (Z0i (top 69)):=fS
theorem X4n (F:FunAt K "_law_cell_at" (top 69) .none)(X:K.In h)(G:h.Ns mainGlobals mg)(B:Bs mg):Cal P w K mg base (k+1) "_law_cell_at" ["_law_script","_law_k"] (spCell K):=by
 have nd:=sc_cell.nd
 refine F.cal X G sc_cell (bnd2 fun _ _ _ _ _ _ _ _=>rfl) (fun vs H Q E h=>?_) (fun f cdv A outer s H vs Q E hr h=>?_)
 ·obtain⟨a,ns,i,rfl,_⟩:=h;rfl
 obtain⟨a,ns,i,rfl,hS,h0,q⟩:=h
 refine⟨_,(@Z0e _ _ _ _ _ (Z0y (Z0o Z6u (pv 1) (Z0q Z0v rfl B.len PySem.boot_len (Z0a (pv 0) Z0d)) (nomark _))
   (@Z0g _ _ _ (Z0j (Z0n Z1a (pv 0) (pv 1) (fun _ _=>rfl))))
   Z0p)
  (@Z0g _ _ _ (Z0j Z0b))),?_⟩
 try dsimp only[cxK]
 have hl:(ns.map V.int).length=ns.length:=List.length_map _
 refine⟨_,rfl,_,rfl,a,_,rfl,.inl hS,_,_,rfl,rfl,_,rfl,decI (fun c=>?_) (fun c=>?_)⟩
 ·rw[hl] at c
  refine⟨_,rfl,_,rfl,a,_,_,_,rfl,rfl,hS,X2u h0 c,?_⟩
  unfold cell at q
  rw[if_pos c] at q
  exact q
 ·rw[hl] at c
  unfold cell at q
  rw[if_neg c] at q
  exact q
theorem sc_whole:FnScope ["_law_found"] ["_law_found"] (Z0i (top 70)):=fS
theorem X0a (F:FunAt K "_law_whole" (top 70) .none)(X:K.In h)(G:h.Ns mainGlobals mg)(B:Bs mg):Cal P w K mg base (k+1) "_law_whole" ["_law_found"] Z3d:=by
 have nd:=sc_whole.nd
 refine F.cal X G sc_whole (bnd1 fun _ _ _ _ _ _ _=>rfl) (fun vs H Q E h=>?_) (fun f cdv A outer s H vs Q E hr h=>?_)
 ·obtain⟨i,rfl,_⟩:=h;rfl
 obtain⟨i,rfl,q⟩:=h
 refine⟨_,(@Z0g _ _ _ (Z0j (Z5c (Z0q Z1f rfl B.isinstance boot_isinstance (Z0a (pv 0) (Z0a (Z2x (v:=.ty "int") rfl B.int boot_int rfl) Z0d))) (Z3x (Y3e (Z0q Z1f rfl B.isinstance boot_isinstance (Z0a (pv 0) (Z0a (Z2x (v:=.ty "bool") rfl B.bool boot_bool rfl) Z0d)))))))),?_⟩
 try dsimp only[cxK]
 refine⟨_,rfl,_,_,_,true,rfl,TyOf.int i,Y7s K,_,rfl,iteT ?_⟩
 exact⟨_,rfl,_,_,_,false,rfl,TyOf.int i,Y7t K,_,rfl,q⟩
theorem sc_low:FnScope ["_law_parts","_law_h"] ["_law_parts","_law_h"] (Z0i (top 72)):=fS
theorem X6z (F:FunAt K "_law_low" (top 72) .none)(X:K.In h)(G:h.Ns mainGlobals mg)(B:Bs mg):Cal P w K mg base (k+1) "_law_low" ["_law_parts","_law_h"] spLow:=by
 have nd:=sc_low.nd
 refine F.cal X G sc_low (bnd2 fun _ _ _ _ _ _ _ _=>rfl) (fun vs H Q E h=>?_) (fun f cdv A outer s H vs Q E hr h=>?_)
 ·obtain⟨l,a,b,c,d,h,rfl,_⟩:=h;rfl
 obtain⟨l,a,b,c,d,h,rfl,hl,h0,q⟩:=h
 refine⟨_,(@Z0e _ _ _ _ _ (Z6a PassesOwn.never (PW.pt (Z6q (Z0o Z9w (pv 1) Z0b (nomark _)) (Z4q (Z1l (Z0q (Z2h rfl) rfl B.all boot_all (Z0a (Z3k rfl (LcOk.of (Nc:=["_law_part"]) (mp:=[none]) (by kernel_rfl)) (Z1d (pv 0)) (fun _ _ _ _=>(Z0m (i:=0) (show (["_law_part"]:List Str).Nodup by decide +kernel) rfl (Or.inl rfl))) (fun _ _ _ _=>(Z1n Z1u (Z0h Z0u (pv 0) Z0b) Z0b (nomark _)))) Z0d))))))
   (@Z0e _ _ _ _ _ (Z2z (i:=0) rfl nd rfl rfl (LcOk.of (Nc:=["_law_part"]) (mp:=[none]) (by kernel_rfl)) (Z1d (pv 0)) (fun _ _ _ _=>(Z0m (i:=0) (show (["_law_part"]:List Str).Nodup by decide +kernel) rfl (Or.inl rfl))) (fun _ _ _ _=>(Z0h Z1e (pv 0) Z0b)) rfl)
   (@Z0g _ _ _ (@Z0r _ _ 1 _ _ _ _ nd rfl (Or.inl rfl) (Z0h Z1z (pv 1) Z0b) rfl (.inl rfl)))))
  (@Z0g _ _ _ (Z0j (@Z0z _ _ _ _ _ (Z0a (Z0n Z1a (pv 0) Z0b (fun _ _=>rfl)) (Z0a (Z0n Z1a (pv 0) Z0b (fun _ _=>rfl)) (Z0a (Z0n Z1a (pv 0) Z0b (fun _ _=>rfl)) (Z0a (Z0n Z1a (pv 0) Z0b (fun _ _=>rfl)) (Z0a (pv 1) Z0d))))))))),?_⟩
 try dsimp only[cxK]
 refine⟨fun m σ H'=>∃ l' x y u v g,m=g.toNat/\σ=[some (.ref l'),some (.int g)]/\Same H H'/\H' l'=some (.lst ([x,y,u,v].map V.int))/\Hv a b c d h x y u v g,⟨_,l,a,b,c,d,h,rfl,rfl,Same.refl _,hl,⟨rfl,rfl,rfl,rfl⟩,Nat.le_refl _,Nat.le_refl _,Nat.le_refl _,Nat.le_refl _,Int.le_refl _,h0⟩,?_⟩
 rintro m σ H2 ⟨l',x,y,u,v,g,rfl,rfl,s2,l2,hv⟩
 refine⟨_,rfl,_,_,rfl,rfl,_,rfl,decI (fun cg=>?_) (fun cg=>?_)⟩
 ·refine⟨_,rfl,l',rfl,⟨_,SqL.of l2⟩,fun acc hacc=>?_⟩
  refine Y3q (ns:=[x,y,u,v]) (fr:=[]) (fun n=>.bl (decide (V.int (n%2)=V.int 0))) (SqL.of l2) t4 hacc (fun n H3 N _ kN=>?_) (fun H3 s3 a3=>?_)
  ·exact⟨_,rfl,_,_,rfl,rfl,p_2,rfl,kN⟩
  refine⟨acc,[x,y,u,v].map fun n=>decide (V.int (n%2)=V.int 0),rfl,SqL.of (by rw[a3];rfl),_,rfl,blI (fun c=>?_) (fun c=>?_)⟩
  ·have l3:=s3 _ _ l2
   refine⟨_,fun _ _ h=>h,_,rfl,l',rfl,⟨_,SqL.of l3⟩,fun ac hac=>?_⟩
   refine Y3q (ns:=[x,y,u,v]) (fr:=[]) (fun n=>.int (n / 2)) (SqL.of l3) t4 hac (fun n H3 N _ kN=>?_) (fun H4 s4 a4=>?_)
   ·exact⟨_,rfl,_,_,rfl,rfl,⟨by decide,by decide⟩,kN⟩
   refine⟨_,rfl,_,_,rfl,rfl,?_⟩
   refine⟨(g-1).toNat,by omega,ac,x / 2,y / 2,u / 2,v / 2,g-1,rfl,rfl,s2.trans (s3.trans s4),a4,hv.half cg (all4.mp c)⟩
  ·have l3:SqL K H3 l' ([x,y,u,v].map V.int):=SqL.of (s3 _ _ l2)
   have o:x%2=1∨y%2=1∨u%2=1∨v%2=1:=by
    have:¬ (x%2=0/\y%2=0/\u%2=0/\v%2=0):=fun z=>by rw[all4.mpr z] at c;cases c
    omega
   refine⟨_,rfl,l',_,_,_,rfl,rfl,l3,rfl,_,rfl,l',_,_,_,rfl,rfl,l3,rfl,_,rfl,l',_,_,_,rfl,rfl,l3,rfl,_,rfl,l',_,_,_,rfl,rfl,l3,rfl,_,rfl,t5,fun t ht=>?_⟩
   exact q t _ x y u v g (s2.trans (s3.trans (Z0f ht _))) Z0c (hv.red (.inr o))
 ·have l3:SqL K H2 l' ([x,y,u,v].map V.int):=SqL.of l2
  refine⟨_,rfl,l',_,_,_,rfl,rfl,l3,rfl,_,rfl,l',_,_,_,rfl,rfl,l3,rfl,_,rfl,l',_,_,_,rfl,rfl,l3,rfl,_,rfl,l',_,_,_,rfl,rfl,l3,rfl,_,rfl,t5,fun t ht=>?_⟩
  exact q t _ x y u v g (s2.trans (Z0f ht _)) Z0c (hv.red (.inl (by have:=hv.nn;omega)))
theorem sc_spin:FnScope ["_law_one","_law_k","_law_a","_law_b","_law_c","_law_d","_law_h","_law_j"] ["_law_one","_law_k"] (Z0i (top 73)):=fS
theorem X4a (F:FunAt K "_law_spin" (top 73) .none)(X:K.In h)(G:h.Ns mainGlobals mg)(B:Bs mg):Cal P w K mg base (k+1) "_law_spin" ["_law_one","_law_k"] spSpin:=by
 have nd:=sc_spin.nd
 refine F.cal X G sc_spin (bnd2 fun _ _ _ _ _ _ _ _=>rfl) (fun vs H Q E h=>?_) (fun f cdv A outer s H vs Q E hr h=>?_)
 ·obtain⟨p,x,k,rfl,_⟩:=h;rfl
 obtain⟨p,x,k,rfl,hp,q⟩:=h
 refine⟨_,(@Z0e _ _ _ _ _ (Z5t (pv 0) (Z4n rfl (Z1b (Z0m (i:=2) nd rfl (Or.inl rfl)) (Z1b (Z0m (i:=3) nd rfl (Or.inl rfl)) (Z1b (Z0m (i:=4) nd rfl (Or.inl rfl)) (Z1b (Z0m (i:=5) nd rfl (Or.inl rfl)) (Z1b (Z0m (i:=6) nd rfl (Or.inl rfl)) Z3j)))))))
  (@Z0e _ _ _ _ _ (Z1p PassesOwn.never rfl (Z0w rfl B.range (Z0a (Z0h Z0u (pv 1) Z0b) Z0d)) (Z0m (i:=7) nd rfl (Or.inl rfl))
   (@Z0g _ _ _ (Z5t (@Z0z _ _ _ _ _ (Z0a (Y4n Z7i (pv 5)) (Z0a (pv 2) (Z0a (pv 3) (Z0a (pv 4) Z0d))))) (Z4n rfl (Z1b (Z0m (i:=2) nd rfl (Or.inl rfl)) (Z1b (Z0m (i:=3) nd rfl (Or.inl rfl)) (Z1b (Z0m (i:=4) nd rfl (Or.inl rfl)) (Z1b (Z0m (i:=5) nd rfl (Or.inl rfl)) Z3j))))))))
  (@Z0g _ _ _ (Z0j (@Z0z _ _ _ _ _ (Z0a (pv 2) (Z0a (pv 3) (Z0a (pv 4) (Z0a (pv 5) (Z0a (pv 6) Z0d)))))))))),?_⟩
 try dsimp only[cxK]
 refine⟨_,rfl,p,_,rfl,SqT.of hp,rfl,_,_,rfl,_,_,rfl,_,_,rfl,_,_,rfl,_,_,rfl,rfl,?_⟩
 refine⟨_,rfl,_,_,rfl,rfl,p_8,_,rfl,by omega,by omega,Z1i (n:=(k%8).toNat) (fun i σ H'=>Same H H'/\∃ v7,σ=[some (.ref p),some (.int k),some (.int (rot i x.1).1),some (.int (rot i x.1).2.1),some (.int (rot i x.1).2.2.1),some (.int (rot i x.1).2.2.2),some (.int x.2),v7]) ⟨Same.refl _,_,rfl⟩ ?_ ?_⟩
 ·rintro i σ H' hi ⟨S',v7,rfl⟩
  refine⟨_,rfl,_,rfl,_,rfl,_,rfl,_,rfl,t4,fun t ht=>⟨t,_,rfl,SqT.of Z0c,rfl,_,_,rfl,_,_,rfl,_,_,rfl,_,_,rfl,rfl,S'.trans (Z0f ht _),_,rfl⟩⟩
 ·rintro σ H' ⟨S',v7,rfl⟩
  exact⟨_,rfl,_,rfl,_,rfl,_,rfl,_,rfl,t5,fun r hr=>q r _ (S'.trans (Z0f hr _)) Z0c⟩
theorem Z2d {x:Int}(h1:-16<x)(h2:x<16):Sz 100 x:=Sz.mono (j:=5) (by unfold Sz;omega) (by decide)
theorem s_0:Sz 100 0:=Z2d (by decide) (by decide)
theorem s_1:Sz 100 1:=Z2d (by decide) (by decide)
theorem forty:(0:Int)<=40:=by decide
def At5 (K:PySem.W.Frag)(H:Hp)(p:Addr)(x:A5):Prop:=SqT K H p ((l5 x).map V.int)
theorem At5.of {K:PySem.W.Frag}{H:Hp}{p:Addr}{x:A5}(h:H p=some (tA x)):At5 K H p x:=SqT.of h
theorem At5.same {K:PySem.W.Frag}{H H':Hp}{p:Addr}{x:A5}(h:At5 K H p x)(s:Same H H'):At5 K H' p x:=s.tup h
theorem At5.upd {K:PySem.W.Frag}{H:Hp}{p l:Addr}{x:A5}{xs ys:List V}(h:At5 K H p x)(e:H l=some (.lst xs)):At5 K (upd H l (.lst ys)) p x:=by
 rcases h with h | h
 ·rcases h with h | ⟨o,h⟩
  ·exact .inl (.inl (by rw[Z0x (Z5o h e (by intro z;cases z))];exact h))
  ·exact .inl (.inr ⟨o,by rw[Z0x (Z5o h e (by intro z;cases z))];exact h⟩)
 ·exact .inr h
def ValsK (K:PySem.W.Frag)(H:Hp)(ps:List Addr)(f:Nat->A5):Prop:=∀ i p,ps[i]?=some p->At5 K H p (f i)
theorem ValsK.same {K:PySem.W.Frag}{H H':Hp}{ps:List Addr}{f:Nat->A5}(v:ValsK K H ps f)(s:Same H H'):ValsK K H' ps f:=fun i p e=>(v i p e).same s
theorem Z3c {K:PySem.W.Frag}{H H':Hp}{ps:List Addr}{f:Nat->A5}{p:Addr}{x:A5}(v:ValsK K H ps f)(s:Same H H')(e:At5 K H' p x):ValsK K H' (ps++[p]) (fun j=>if j=ps.length then x else f j):=by
 intro i q hq
 by_cases hi:i<ps.length
 ·rw[List.getElem?_append_left hi] at hq
  show At5 K H' q (if i=ps.length then x else f i)
  rw[if_neg (by omega)]
  exact(v i q hq).same s
 ·rw[List.getElem?_append_right (by omega)] at hq
  have hi2:i=ps.length:=by
   have:=(List.getElem?_eq_some_iff.mp hq).1
   simp at this
   omega
  subst hi2
  simp at hq
  subst hq
  show At5 K H' _ (if ps.length=ps.length then x else f ps.length)
  rw[if_pos rfl]
  exact e
theorem Z2t {K:PySem.W.Frag}{H:Hp}{ps:List Addr}{f:Nat->A5}{l:Addr}{xs ys:List V}(v:ValsK K H ps f)(e:H l=some (.lst xs)):ValsK K (upd H l (.lst ys)) ps f:=fun i q hq=>(v i q hq).upd e
theorem Y1o {K:PySem.W.Frag}{a:Addr}{ns:List Int}{te:TE}{fr:L2.St}{H1:Hp}{acc:Addr}{Q:VK}(f:Int->V)(hl:SqT K H1 a (ns.map V.int))(hn:ns.length<=sizeLine)(hacc:H1 acc=none)(hs:∀ n H (N:V->Hp->Prop),n∈ns->Same H1 H->N (f n) H->te (some (.int n)::fr) H N)
  (hd:∀ H2,Same H1 H2->H2 acc=some (.lst (ns.map f))->Q (.ref acc) H2):LcW (Itt K a) (gName 0) te (none::fr) H1 acc Q:=by
 refine Z8n (n:=ns.length) (val:=fun i=>.int (ns.getD i 0)) (fun i=>f (ns.getD i 0)) hn hacc (fun i H hi s=>?_) (fun H s=>⟨_,s.tup hl,by simp⟩) (fun i H N hi s kN=>hs _ H N (by simp[hi]) s kN) (fun H2 s h=>hd H2 s (by rw[h,Z4y]))
 have e:(ns.map V.int)[i]?=some (.int (ns.getD i 0)):=by simp[hi]
 refine⟨⟨_,_,s.tup hl,e⟩,fun x H' y=>⟨y.1,?_⟩⟩
 have:=y.2 _ (s.tup hl)
 rw[e] at this
 exact(Option.some.inj this).symm
theorem cut54:¬ (HT.sIx 5 0 none=0/\HT.sIx 5 5 (some 4)=5):=by decide
def spHalf:Sp:=fun vs H Q _=>∃ a b c d h:Int,vs=[.int a,.int b,.int c,.int d,.int h]/\0<=h/\∀ (p:Addr) (H':Hp) (x y z u g:Int),Same H H'->H' p=some (T5 x y z u g)->Red a b c d h x y z u g->Q (.ref p) H'
def Y2p:Sp:=fun vs H Q _=>∃ (p:Addr) (a b c d h:Int),vs=[.ref p]/\H p=some (T5 a b c d h)/\0<=h/\∀ (r:Addr) (H':Hp) (x y z u g:Int),Same H H'->H' r=some (T5 x y z u g)->Red (b-d) (a+c) (b+d) (c-a) (h+1) x y z u g->Q (.ref r) H'
def Y5s (K:PySem.W.Frag):Sp:=fun vs H Q _=>∃ (p:Addr) (a b c d h:Int),vs=[.ref p]/\At5 K H p ((a,b,c,d),h)/\∀ (r:Addr) (H':Hp),Same H H'->H' r=some (T5 (-d) a b c h)->Q (.ref r) H'
def Z8d (K:PySem.W.Frag):Sp:=fun vs H Q _=>∃ (p:Addr) (a b c d h k:Int),vs=[.ref p,.int k]/\At5 K H p ((a,b,c,d),h)/\∀ (r:Addr) (H':Hp),Same H H'->At5 K H' r (rot (k%8).toNat (a,b,c,d),h)->Q (.ref r) H'
theorem sc_half:FnScope ["a","b","c","d","h","places","lowest","less"] ["a","b","c","d","h"] (Z0i (top 9)):=fS
theorem X4k (F:FunAt K "halved_out" (top 9) .none)(X:K.In h)(G:h.Ns mainGlobals mg)(B:Bs mg):Cal P w K mg base (k+1) "halved_out" ["a","b","c","d","h"] spHalf:=by
 have nd:=sc_half.nd
 refine F.cal X G sc_half (bnd5 fun _ _ _ _ _ _ _ _ _ _ _=>rfl) (fun vs H Q E h=>?_) (fun f cdv A outer s H vs Q E hr h=>?_)
 ·obtain⟨a,b,c,d,h,rfl,_⟩:=h;rfl
 obtain⟨a,b,c,d,h,rfl,h0,q⟩:=h
 refine⟨_,(@Z0e _ _ _ _ _ (@Z0r _ _ 5 _ _ _ _ nd rfl (Or.inl rfl) (Z0h Y1f (Z0h Y1f (Z0h Y1f (pv 0) (pv 1)) (pv 2)) (pv 3)) rfl (.inl rfl))
  (@Z0e _ _ _ _ _ (Z0y (Z0o Z1u (pv 5) Z0b (nomark _))
   (@Z0g _ _ _ (Z0j (@Z0z _ _ _ _ _ (Z0a Z0b (Z0a Z0b (Z0a Z0b (Z0a Z0b (Z0a Z0b Z0d))))))))
   Z0p)
  (@Z0e _ _ _ _ _ (@Z0r _ _ 6 _ _ _ _ nd rfl (Or.inl rfl) (Z0h Z1z (Z5b PySem.F.plainAttrs_int PySem.F.slot_int_bit_length PySem.F.type_int_bit_length Z2l (Z0h Z1t (pv 5) (Y4n Z7i (pv 5)))) Z0b) rfl (.inl rfl))
  (@Z0e _ _ _ _ _ (@Z0r _ _ 7 _ _ _ _ nd rfl (Or.inl rfl) (Z0q (Y8t rfl) rfl B.min boot_min (Z0a (pv 6) (Z0a (pv 4) Z0d))) rfl (.inl rfl))
  (@Z0g _ _ _ (Z0j (@Z0z _ _ _ _ _ (Z0a (Z0h Z4h (pv 0) (pv 7)) (Z0a (Z0h Z4h (pv 1) (pv 7)) (Z0a (Z0h Z4h (pv 2) (pv 7)) (Z0a (Z0h Z4h (pv 3) (pv 7)) (Z0a (Z0h Z1z (pv 4) (pv 7)) Z0d)))))))))))),?_⟩
 try dsimp only[cxK]
 refine⟨_,rfl,_,rfl,_,_,rfl,rfl,_,rfl,_,_,rfl,rfl,_,rfl,_,_,rfl,rfl,?_⟩
 refine⟨_,rfl,rfl,_,rfl,eqI (fun e=>?_) (fun e=>?_)⟩
 ·obtain⟨rfl,rfl,rfl,rfl⟩:=orAll_zero.mp e
  exact⟨by show 5<=sizeLine;decide,fun p hp=>q p _ 0 0 0 0 0 (Z0f hp _) Z0c ⟨⟨by omega,.inl rfl⟩,⟨by simp[Eq2],by simp[Eq2],by simp[Eq2],by simp[Eq2]⟩,Nat.le_refl _,Nat.le_refl _,Nat.le_refl _,Nat.le_refl _,h0⟩⟩
 obtain⟨v,ev,hd,hn⟩:=lowest e
 obtain⟨m0,m1,ha,hs,b1,b2,b3,b4⟩:=halve h0 hd hn rfl
 have ev':((Builtin.Int.intBits (Builtin.bitAnd (Builtin.bitOr (Builtin.bitOr (Builtin.bitOr a b) c) d) (-(Builtin.bitOr (Builtin.bitOr (Builtin.bitOr a b) c) d))):Nat):Int)-1=v:=ev
 refine⟨_,rfl,_,rfl,_,rfl,_,_,rfl,rfl,rfl,_,rfl,rfl,_,_,rfl,rfl,?_⟩
 show tSeq _ _ _ (List.set _ 6 (some (V.int (((Builtin.Int.intBits (Builtin.bitAnd (Builtin.bitOr (Builtin.bitOr (Builtin.bitOr a b) c) d) (-(Builtin.bitOr (Builtin.bitOr (Builtin.bitOr a b) c) d))):Nat):Int)-1)))) H
 rw[ev']
 generalize hm:(if h<(v:Int) then h else (v:Int))=m at *
 refine⟨_,rfl,_,rfl,_,_,rfl,?_⟩
 rw[hm]
 refine⟨_,rfl,_,rfl,_,_,rfl,rfl,m0,_,rfl,_,rfl,_,_,rfl,rfl,m0,_,rfl,_,rfl,_,_,rfl,rfl,m0,_,rfl,_,rfl,_,_,rfl,rfl,m0,_,rfl,_,rfl,_,_,rfl,rfl,(by show 5<=sizeLine;decide),fun p hp=>?_⟩
 exact q p _ _ _ _ _ _ (Z0f hp _) Z0c ⟨ha,hs,b1,b2,b3,b4,by omega⟩
theorem sc_once:FnScope ["one"] ["one"] (Z0i (top 13)):=fS
theorem X4d (F:FunAt K "spun_once" (top 13) .none)(X:K.In h)(G:h.Ns mainGlobals mg):Cal P w K mg base (k+1) "spun_once" ["one"] (Y5s K):=by
 have nd:=sc_once.nd
 refine F.cal X G sc_once (bnd1 fun _ _ _ _ _ _ _=>rfl) (fun vs H Q E h=>?_) (fun f cdv A outer s H vs Q E hr h=>?_)
 ·obtain⟨p,a,b,c,d,h,rfl,_⟩:=h;rfl
 obtain⟨p,a,b,c,d,h,rfl,hp,q⟩:=h
 have S:SqT K H p [.int a,.int b,.int c,.int d,.int h]:=hp
 refine⟨_,(@Z0g _ _ _ (Z0j (@Z0z _ _ _ _ _ (Z0a (Y4n Z7i (Z0n Z0l (pv 0) Z0b (fun _ _=>rfl))) (Z0a (Z0n Z0l (pv 0) Z0b (fun _ _=>rfl)) (Z0a (Z0n Z0l (pv 0) Z0b (fun _ _=>rfl)) (Z0a (Z0n Z0l (pv 0) Z0b (fun _ _=>rfl)) (Z0a (Z0n Z0l (pv 0) Z0b (fun _ _=>rfl)) Z0d)))))))),?_⟩
 try dsimp only[cxK]
 refine⟨_,rfl,p,_,_,_,rfl,rfl,S,rfl,_,rfl,_,rfl,p,_,_,_,rfl,rfl,S,rfl,_,rfl,p,_,_,_,rfl,rfl,S,rfl,_,rfl,p,_,_,_,rfl,rfl,S,rfl,_,rfl,p,_,_,_,rfl,rfl,S,rfl,(by show 5<=sizeLine;decide),fun r hr=>?_⟩
 exact q r _ (Z0f hr _) Z0c
theorem sc_rooted:FnScope ["one"] ["one"] (Z0i (top 14)):=fS
theorem Y6s (F:FunAt K "rooted" (top 14) .none)(X:K.In h)(G:h.Ns mainGlobals mg)(c_halved_out:Cal P w K mg base k "halved_out" ["a","b","c","d","h"] spHalf):Cal P w K mg base (k+1) "rooted" ["one"] Y2p:=by
 have nd:=sc_rooted.nd
 refine F.cal X G sc_rooted (bnd1 fun _ _ _ _ _ _ _=>rfl) (fun vs H Q E h=>?_) (fun f cdv A outer s H vs Q E hr h=>?_)
 ·obtain⟨p,a,b,c,d,h,rfl,_⟩:=h;rfl
 obtain⟨p,a,b,c,d,h,rfl,hp,h0,q⟩:=h
 have S:SqT K H p [.int a,.int b,.int c,.int d,.int h]:=SqT.of hp
 refine⟨_,(@Z0g _ _ _ (Z0j (Z0k c_halved_out hr rfl (Z0a (Z0h Z1z (Z0n Z0l (pv 0) Z0b (fun _ _=>rfl)) (Z0n Z0l (pv 0) Z0b (fun _ _=>rfl))) (Z0a (Z0h Z1c (Z0n Z0l (pv 0) Z0b (fun _ _=>rfl)) (Z0n Z0l (pv 0) Z0b (fun _ _=>rfl))) (Z0a (Z0h Z1c (Z0n Z0l (pv 0) Z0b (fun _ _=>rfl)) (Z0n Z0l (pv 0) Z0b (fun _ _=>rfl))) (Z0a (Z0h Z1z (Z0n Z0l (pv 0) Z0b (fun _ _=>rfl)) (Z0n Z0l (pv 0) Z0b (fun _ _=>rfl))) (Z0a (Z0h Z1c (Z0n Z0l (pv 0) Z0b (fun _ _=>rfl)) Z0b) Z0d)))))))),?_⟩
 try dsimp only[cxK]
 refine⟨_,rfl,p,_,_,_,rfl,rfl,S,rfl,_,rfl,p,_,_,_,rfl,rfl,S,rfl,_,_,rfl,rfl,_,rfl,p,_,_,_,rfl,rfl,S,rfl,_,rfl,p,_,_,_,rfl,rfl,S,rfl,_,_,rfl,rfl,
  _,rfl,p,_,_,_,rfl,rfl,S,rfl,_,rfl,p,_,_,_,rfl,rfl,S,rfl,_,_,rfl,rfl,_,rfl,p,_,_,_,rfl,rfl,S,rfl,_,rfl,p,_,_,_,rfl,rfl,S,rfl,_,_,rfl,rfl,_,rfl,p,_,_,_,rfl,rfl,S,rfl,_,_,rfl,rfl,?_⟩
 exact⟨_,_,_,_,_,rfl,(by show 0<=h+1;omega),fun r H' x y z u g s1 e1 r1=>q r H' x y z u g s1 e1 r1⟩
theorem sc_spun:FnScope ["one","k","turning","step"] ["one","k"] (Z0i (top 12)):=fS
theorem X3z (F:FunAt K "spun" (top 12) .none)(X:K.In h)(G:h.Ns mainGlobals mg)(B:Bs mg)(c_spun_once:Cal P w K mg base k "spun_once" ["one"] (Y5s K)):Cal P w K mg base (k+1) "spun" ["one","k"] (Z8d K):=by
 have nd:=sc_spun.nd
 refine F.cal X G sc_spun (bnd2 fun _ _ _ _ _ _ _ _=>rfl) (fun vs H Q E h=>?_) (fun f cdv A outer s H vs Q E hr h=>?_)
 ·obtain⟨p,a,b,c,d,h,k,rfl,_⟩:=h;rfl
 obtain⟨p,a,b,c,d,h,j,rfl,hp,q⟩:=h
 have S:SqT K H p [.int a,.int b,.int c,.int d,.int h]:=hp
 refine⟨_,(@Z0e _ _ _ _ _ (@Z0r _ _ 2 _ _ _ _ nd rfl (Or.inl rfl) (pv 0) rfl (.inl rfl))
  (@Z0e _ _ _ _ _ (Z1p PassesOwn.never rfl (Z0w rfl B.range (Z0a (Z0h Z0u (pv 1) Z0b) Z0d)) (Z0m (i:=3) nd rfl (Or.inl rfl))
   (@Z0g _ _ _ (@Z0r _ _ 2 _ _ _ _ nd rfl (Or.inl rfl) (Z0k c_spun_once hr rfl (Z0a (pv 2) Z0d)) rfl (.inl rfl))))
  (@Z0g _ _ _ (Z0j (pv 2))))),?_⟩
 try dsimp only[cxK]
 have j0:=Int.emod_nonneg j (show (8:Int)≠0 by decide)
 have j1:=Int.emod_lt_of_pos j (show (0:Int)<8 by decide)
 refine⟨_,rfl,_,rfl,_,_,rfl,rfl,(by show (0:Int)<8;decide),_,rfl,(by omega),(by omega),Z1i (n:=(j%8).toNat) (fun i σ H'=>Same H H'/\∃ t v,σ=[some (.ref p),some (.int j),some (.ref t),v]/\At5 K H' t (rot i (a,b,c,d),h)) ⟨Same.refl _,p,none,rfl,hp⟩ ?_ ?_⟩
 ·rintro i σ H2 hi ⟨s2,t,v,rfl,ht⟩
  refine⟨_,rfl,t,_,_,_,_,_,rfl,ht,fun r H' s3 e3=>?_⟩
  exact⟨s2.trans s3,r,_,rfl,At5.of e3⟩
 ·rintro σ H2 ⟨s2,t,v,rfl,ht⟩
  exact⟨_,rfl,q t H2 s2 ht⟩
structure Sum (a b c d h a' b' c' d' h' x y z u g:Int):Prop where
 amt:Amt x y z u g
 same:Same4 (a*p2 h'+a'*p2 h) (b*p2 h'+b'*p2 h) (c*p2 h'+c'*p2 h) (d*p2 h'+d'*p2 h) (h+h') x y z u g
 le:g<=max h h'
theorem Y2i {a a' h h' m:Int}(h0:0<=h)(h0':0<=h')(hm:h<=m)(hm':h'<=m):Eq2 (a*p2 h'+a'*p2 h) (h+h') (a*2^(m-h).toNat+a'*2^(m-h').toNat) m:=by
 unfold Eq2
 rw[Z9t h0 h0']
 show _=(a*p2 (m-h)+a'*p2 (m-h'))*(p2 h*p2 h')
 have e1:=Z5v h0 hm
 have e2:=Z5v h0' hm'
 have l1:(a*p2 h'+a'*p2 h)*p2 m=a*p2 h'*p2 m+a'*p2 h*p2 m:=Int.add_mul ..
 rw[l1,show a*p2 h'*p2 m=a*p2 h'*(p2 (m-h)*p2 h) by rw[<-e1],show a'*p2 h*p2 m=a'*p2 h*(p2 (m-h')*p2 h') by rw[<-e2]]
 grind
theorem X2c (n:Nat):Sz (n+1) ((2:Int)^n):=by
 unfold Sz
 rw[Int.natAbs_pow]
 exact Nat.pow_lt_pow_right (by decide) (Nat.lt_succ_self n)
theorem Y2h {a a' h h' m:Int}{n N:Nat}(hm:m-h<=h'/\m-h'<=h)(z:Sz n a)(z':Sz n a')(hN:n+h.toNat+h'.toNat+2<=N):Sz N (a*2^(m-h).toNat+a'*2^(m-h').toNat):=by
 refine((z.mul (X2c (m-h).toNat)).add (z'.mul (X2c (m-h').toNat))).mono ?_
 omega
structure In2 (K:PySem.W.Frag) (n:Nat) (vs:List V) (H:Hp) (p q:Addr) (a b c d h a' b' c' d' h':Int):Prop where
 vs:vs=[.ref p,.ref q]
 one:At5 K H p ((a,b,c,d),h)
 other:At5 K H q ((a',b',c',d'),h')
 h0:0<=h
 h0':0<=h'
 hh:h+h'<=40000
 hn:n<=500000
 z:Sz4 n a b c d
 z':Sz4 n a' b' c' d'
def Y0x (K:PySem.W.Frag):Sp:=fun vs H Q _=>∃ n p q a b c d h a' b' c' d' h',In2 K n vs H p q a b c d h a' b' c' d' h'/\∀ (r:Addr) (H':Hp) (x y z u g:Int),Same H H'->H' r=some (T5 x y z u g)->Sum a b c d h a' b' c' d' h' x y z u g->Sz4 (n+h.toNat+h'.toNat+2) x y z u->Q (.ref r) H'
def Y2s (K:PySem.W.Frag):Sp:=fun vs H Q _=>∃ n p q a b c d h a' b' c' d' h',In2 K n vs H p q a b c d h a' b' c' d' h'/\∀ (r:Addr) (H':Hp) (x y z u g:Int),Same H H'->H' r=some (T5 x y z u g)->Sum a b c d h (-a') (-b') (-c') (-d') h' x y z u g->Sz4 (n+h.toNat+h'.toNat+2) x y z u->Q (.ref r) H'
theorem sc_plus:FnScope ["one","other","h","up","other_up","sums"] ["one","other"] (Z0i (top 10)):=fS
theorem X4b (F:FunAt K "plus" (top 10) .none)(X:K.In h)(G:h.Ns mainGlobals mg)(B:Bs mg)(c_halved_out:Cal P w K mg base k "halved_out" ["a","b","c","d","h"] spHalf):Cal P w K mg base (k+1) "plus" ["one","other"] (Y0x K):=by
 have nd:=sc_plus.nd
 refine F.cal X G sc_plus (bnd2 fun _ _ _ _ _ _ _ _=>rfl) (fun vs H Q E h=>?_) (fun f cdv A outer s H vs Q E hr h=>?_)
 ·obtain⟨n,p,q,a,b,c,d,h,a',b',c',d',h',I,_⟩:=h;rw[I.vs];rfl
 obtain⟨n,p,q,a,b,c,d,h,a',b',c',d',h',⟨rfl,e1,e2,h0,h0',hh,hn,z,z'⟩,kq⟩:=h
 have S:SqT K H p [.int a,.int b,.int c,.int d,.int h]:=e1
 have S':SqT K H q [.int a',.int b',.int c',.int d',.int h']:=e2
 refine⟨_,(@Z0e _ _ _ _ _ (@Z0r _ _ 2 _ _ _ _ nd rfl (Or.inl rfl) (Z0q (Y8v rfl) rfl B.max boot_max (Z0a (Z0n Z0l (pv 0) Z0b (fun _ _=>rfl)) (Z0a (Z0n Z0l (pv 1) Z0b (fun _ _=>rfl)) Z0d))) rfl (.inl rfl))
  (@Z0e _ _ _ _ _ (@Z0r _ _ 3 _ _ _ _ nd rfl (Or.inr rfl) (Z0h Z1z (pv 2) (Z0n Z0l (pv 0) Z0b (fun _ _=>rfl))) rfl (.inl rfl))
  (@Z0e _ _ _ _ _ (@Z0r _ _ 4 _ _ _ _ nd rfl (Or.inr rfl) (Z0h Z1z (pv 2) (Z0n Z0l (pv 1) Z0b (fun _ _=>rfl))) rfl (.inl rfl))
  (@Z0e _ _ _ _ _ (Z2z (i:=5) rfl nd rfl rfl (LcOk.of (Nc:=["x","y","up","other_up"]) (mp:=[none,none,some 3,some 4]) (by kernel_rfl)) (X6t true true rfl B.zip (Z0a (Z2k Y6a (pv 0) Z4d (Z2j Z0b)) (Z0a (Z2k Y6a (pv 1) Z4d (Z2j Z0b)) Z0d))) (fun _ _ _ _=>(Z6b rfl (show (["x","y","up","other_up"]:List Str).Nodup by decide +kernel) rfl rfl rfl rfl)) (fun _ _ _ _=>(Z0h Z1c (Z0h Z1r (pv 0) (pv 2)) (Z0h Z1r (pv 1) (pv 3)))) rfl)
  (@Z0g _ _ _ (Z0j (Z0k c_halved_out hr rfl (Z0a (Z0n Z1a (pv 5) Z0b (fun _ _=>rfl)) (Z0a (Z0n Z1a (pv 5) Z0b (fun _ _=>rfl)) (Z0a (Z0n Z1a (pv 5) Z0b (fun _ _=>rfl)) (Z0a (Z0n Z1a (pv 5) Z0b (fun _ _=>rfl)) (Z0a (pv 2) Z0d)))))))))))),?_⟩
 try dsimp only[cxK]
 refine⟨_,rfl,p,_,_,_,rfl,rfl,S,rfl,_,rfl,q,_,_,_,rfl,rfl,S',rfl,_,_,rfl,?_⟩
 generalize hm:(if h'>h then h' else h)=m
 have m1:h<=m:=by rw[<-hm];split<;>omega
 have m2:h'<=m:=by rw[<-hm];split<;>omega
 have m3:m-h<=h'/\m-h'<=h/\m<=h+h':=by rw[<-hm];split<;>omega
 refine⟨_,rfl,_,rfl,p,_,_,_,rfl,rfl,S,rfl,_,_,rfl,rfl,?_⟩
 refine⟨_,rfl,_,rfl,q,_,_,_,rfl,rfl,S',rfl,_,_,rfl,rfl,?_⟩
 refine⟨_,rfl,4,rfl,p,_,rfl,S,cut54,fun l1 hl1=>?_⟩
 refine⟨_,rfl,4,rfl,q,_,rfl,(Z0f hl1 _).tup S',cut54,fun l2 hl2=>?_⟩
 have s2:Same H (upd (upd H l1 (.tup ([a,b,c,d].map V.int))) l2 (.tup ([a',b',c',d'].map V.int))):=(Z0f hl1 _).trans (Z0f hl2 _)
 refine⟨l1,l2,[a,b,c,d].map V.int,[a',b',c',d'].map V.int,rfl,(Z0f hl2 _).tup (SqT.of Z0c),SqT.of Z0c,fun acc hacc=>?_⟩
 refine X5a (K:=K) (ns:=[a,b,c,d]) (ms:=[a',b',c',d']) (fr:=[some (.int (m-h)),some (.int (m-h'))]) (fun x y=>x*2^(m-h).toNat+y*2^(m-h').toNat) rfl (show 4<=sizeLine by decide) ((Z0f hl2 _).tup (SqT.of Z0c)) (SqT.of Z0c) hacc
  (fun ha hQ=>⟨_,_,rfl,SqT.of ha,rfl,_,_,rfl,_,_,rfl,rfl,hQ⟩) ?_ ?_
 ·intro x y H2 N hx hy kN
  have zx:Sz n x:=by
   simp only[List.mem_cons,List.not_mem_nil,or_false] at hx
   rcases hx with rfl | rfl | rfl | rfl
   ·exact z.z1
   ·exact z.z2
   ·exact z.z3
   ·exact z.z4
  have zy:Sz n y:=by
   simp only[List.mem_cons,List.not_mem_nil,or_false] at hy
   rcases hy with rfl | rfl | rfl | rfl
   ·exact z'.z1
   ·exact z'.z2
   ·exact z'.z3
   ·exact z'.z4
  exact⟨_,rfl,_,rfl,_,_,rfl,rfl,⟨n,zx,(by omega),(by omega)⟩,_,rfl,_,rfl,_,_,rfl,rfl,⟨n,zy,(by omega),(by omega)⟩,_,_,rfl,rfl,kN⟩
 intro H2 s3 a3
 have SA:SqL K H2 acc ((List.zipWith (fun x y=>x*2^(m-h).toNat+y*2^(m-h').toNat) [a,b,c,d] [a',b',c',d']).map V.int):=SqL.of a3
 refine⟨_,rfl,acc,_,_,_,rfl,rfl,SA,rfl,_,rfl,acc,_,_,_,rfl,rfl,SA,rfl,_,rfl,acc,_,_,_,rfl,rfl,SA,rfl,_,rfl,acc,_,_,_,rfl,rfl,SA,rfl,_,rfl,_,_,_,_,_,rfl,(by show 0<=m;omega),fun r H' x y v u g s4 e4 r4=>?_⟩
 have hN:n+h.toNat+h'.toNat+2<=n+h.toNat+h'.toNat+2:=Nat.le_refl _
 have m4:m-h<=h'/\m-h'<=h:=⟨m3.1,m3.2.1⟩
 refine kq r H' x y v u g (s2.trans (s3.trans s4)) e4 ⟨r4.amt,Same4.trans ⟨Y2i h0 h0' m1 m2,Y2i h0 h0' m1 m2,Y2i h0 h0' m1 m2,Y2i h0 h0' m1 m2⟩ r4.same,by have:=r4.le;rw[<-hm] at this;split at this<;>omega⟩ (r4.sz ⟨?_,?_,?_,?_⟩)
 ·exact Y2h m4 z.z1 z'.z1 hN
 ·exact Y2h m4 z.z2 z'.z2 hN
 ·exact Y2h m4 z.z3 z'.z3 hN
 ·exact Y2h m4 z.z4 z'.z4 hN
theorem sc_minus:FnScope ["one","other"] ["one","other"] (Z0i (top 11)):=fS
theorem X0j (F:FunAt K "minus" (top 11) .none)(X:K.In h)(G:h.Ns mainGlobals mg)(c_plus:Cal P w K mg base k "plus" ["one","other"] (Y0x K))(c_spun:Cal P w K mg base k "spun" ["one","k"] (Z8d K)):Cal P w K mg base (k+1) "minus" ["one","other"] (Y2s K):=by
 have nd:=sc_minus.nd
 refine F.cal X G sc_minus (bnd2 fun _ _ _ _ _ _ _ _=>rfl) (fun vs H Q E h=>?_) (fun f cdv A outer s H vs Q E hr h=>?_)
 ·obtain⟨n,p,q,a,b,c,d,h,a',b',c',d',h',I,_⟩:=h;rw[I.vs];rfl
 obtain⟨n,p,q,a,b,c,d,h,a',b',c',d',h',⟨rfl,e1,e2,h0,h0',hh,hn,z,z'⟩,kq⟩:=h
 refine⟨_,(@Z0g _ _ _ (Z0j (Z0k c_plus hr rfl (Z0a (pv 0) (Z0a (Z0k c_spun hr rfl (Z0a (pv 1) (Z0a Z0b Z0d))) Z0d))))),?_⟩
 try dsimp only[cxK]
 refine⟨_,rfl,_,rfl,q,_,_,_,_,_,_,rfl,e2,fun r H2 s2 er=>?_⟩
 have er':At5 K H2 r ((-a',-b',-c',-d'),h'):=er
 exact⟨n,p,r,a,b,c,d,h,-a',-b',-c',-d',h',⟨rfl,e1.same s2,er',h0,h0',hh,hn,z,⟨z'.z1.neg,z'.z2.neg,z'.z3.neg,z'.z4.neg⟩⟩,fun r' H3 x y v u g s3=>kq r' H3 x y v u g (s2.trans s3)⟩
end
end K62
namespace L2
open PySem PySem.Spec PyProof.Rows
def TEnt (P:Params)(e:DictEntry)(p:Str × Int):Prop:=∃ t u,e=⟨PyData.keyHash P p.1,.str p.1 t,.int p.2 u⟩
structure KDic (K:PySem.W.Frag) (P:Params) (a:Addr) (kvs:List (Str × Int)):Prop where
 ex:∃ o es ep,K.lookup a=some o/\o.ExactDict/\o.data=.dict es ep/\Paired (TEnt P) es.toList kvs
 nd:(kvs.map (·.1)).Nodup
 ns:(a == sysModules)=false
def txt (p:Str × Int):Key × V:=(Sum.inr p.1,.int p.2)
theorem KDic.at {K:PySem.W.Frag}{prog:Program}{w:World}{a:Addr}{kvs:List (Str × Int)}{h:Heap}(D:KDic K w.params a kvs)(X:K.In h):∃ vs,KV (kvs.map txt) vs/\h.DictOf (Z1v prog w) a vs:=by
 obtain⟨o,es,ep,hl,hx,hd,hp⟩:=D.ex
 have key:∀ {l:List DictEntry}{kvs:List (Str × Int)},Paired (TEnt w.params) l kvs->∃ vs:List (Key × Value),KV (kvs.map txt) vs/\Pairs (Z1v prog w) l vs:=by
  intro l kvs h
  induction h with
  | nil=>exact⟨[],.nil,.nil⟩
  | @cons e p l kvs he hr ih =>
   obtain⟨vs,a1,a2⟩:=ih
   obtain⟨t,u,rfl⟩:=he
   exact⟨(Sum.inr p.1,.int p.2 u)::vs,.cons ⟨rfl,u,rfl⟩ a1,.cons (Z6y p.1 t) rfl a2⟩
 have all:∀ {l:List DictEntry}{kvs:List (Str × Int)},Paired (TEnt w.params) l kvs->∀ e∈l,∃ p,TEnt w.params e p:=by
  intro l kvs h
  induction h with
  | nil=>intro e he;cases he
  | @cons e p l kvs he hr ih =>
   intro e' h'
   rcases List.mem_cons.mp h' with rfl | h'
   ·exact⟨p,he⟩
   ·exact ih e' h'
 obtain⟨vs,a1,a2⟩:=key hp
 refine⟨vs,a1,o,es,ep,X _ _ hl,hx,hd,?_,a2,?_⟩
 ·intro e he
  obtain⟨p,t,u,rfl⟩:=all hp e (Array.mem_toList_iff.mpr he)
  exact⟨Sum.inr p.1,Z6y p.1 t,rfl⟩
 ·rw[<-a1.keys,List.map_map]
  have e:kvs.map ((fun kv=>kv.1) ∘ txt)=(kvs.map (·.1)).map (Sum.inr:Str->Key):=by rw[List.map_map];rfl
  rw[e]
  exact List.pairwise_map.mpr (D.nd.imp fun h z=>h (Sum.inr.inj z))
def numAt (kvs:List (Str × Int))(x:Str):Option V:=valV (kvs.map txt) (Sum.inr x)
def X3d (kvs:List (Str × Int))(ty:TE):TE:=fun σ H Q=>ty σ H fun y H1=>∃ x,y=.str x/\Q (.bl (!(numAt kvs x).isSome)) H1
def tKGet (kvs:List (Str × Int))(ty:TE):TE:=fun σ H Q=>ty σ H fun y H1=>∃ x v,y=.str x/\numAt kvs x=some v/\Q v H1
section
variable {X:Cx}{o i:Expr}{pos:Pos}{ty:TE}{aN:Addr}{kvs:List (Str × Int)}
theorem Y6l (D:KDic X.K X.w.params aN kvs)(hi:PE X i ty)(ho:PE X o (tC (.ref aN))):PC X .NotIn i o (X3d kvs ty):=by
 intro pins s σ H Q I h
 refine thn (hi pins s σ H _ I h) fun iv s1 ⟨y,H1,I1,ry,x,ey,q1⟩=>thn (ho pins s1 σ H1 (fun v H2=>v=.ref aN/\H2=H1) I1 ⟨rfl,rfl⟩) fun u s2 ⟨v,H2,I2,rv,ev,eh⟩=>?_
 subst ev eh ey
 cases rv
 obtain⟨vs,rel,dd⟩:=D.at (prog:=X.prog) (w:=X.w) I2.kIn
 refine wpAny_notIn_of (Y1p (k:=Sum.inr x) ry) D.ns dd.mapOf ?_
 rw[<-(rel.val (Sum.inr x)).isSome_eq]
 exact⟨.bl _,H2,I2.tok _,rfl,q1⟩
theorem X3r (D:KDic X.K X.w.params aN kvs)(ho:PE X o (tC (.ref aN)))(hi:PE X i ty)(hs:NoSl i):PE X (.Subscript o i pos) (tKGet kvs ty):=by
 intro pins s σ H Q I h
 refine Y5k PySem.F.slot_dict_getitem.lookup hs (thn (ho pins s σ H (fun v H2=>v=.ref aN/\H2=H) I ⟨rfl,rfl⟩) fun u s1 ⟨v,H1,I1,rv,ev,eh⟩=>?_)
 subst ev eh
 cases rv
 refine thn (hi pins s1 σ H1 _ I1 h) fun iv s2 ⟨y,H2,I2,ry,x,w',ey,g,q2⟩=>?_
 subst ey
 obtain⟨vs,rel,dd⟩:=D.at (prog:=X.prog) (w:=X.w) I2.kIn
 obtain⟨u,hw,ru⟩:=RelO.some_of (v:=w') (o:=valueAt vs (Sum.inr x)) (by rw[<-g];exact rel.val (Sum.inr x))
 exact⟨dd.typeIs,wpAny_getItem_of (Y1p (k:=Sum.inr x) ry) dd.mapOf hw ⟨w',H2,I2.tok _,ru,q2⟩⟩
end
end L2
namespace L2
open PySem PySem.Spec PyProof.Rows
abbrev unlike (ns:List Int):Nat:=(firstMet (fun i=>ns.getD i 0) ns.length).length
abbrev fresh0 (led:Bool):Obj:={ cls:=.type "set",dict:=none,data:=.set #[] 0 (.fresh 0 0 led) }
def SetEnd (prog:Program)(w:World)(s:Shared)(ns:List Int)(S:Int->Bool)(s':Shared):Prop :=
 ∃ h' tk,s'={ s with heap:=h',toks:=tk }/\h'.SetOf (intKind prog w) s.heap.objs.size S (unlike ns)/\∀ b o,s.heap.get? b=some o->h'.get? b=some o
section
variable {prog:Program}{w:World}{A:Around}{E:Value->Shared->Prop}{s:Shared}{p:Addr}{its:Array Value}{ns:List Int}
theorem X1i (hh:A.handled=none)(ht:s.heap.IsTuple p its)(hi:IntsAre its.toList ns)(hb:ns.length+1<scanBound)(led:Bool){R:Result->Shared->Prop}
  (h:∀ s',SetEnd prog w s ns (fun k=>(firstMet (fun i=>ns.getD i 0) ns.length).any (· == k)) s'->R (.ok (.ret .none)) s') :
  codeAny (model prog w) A (.builtin "set.update.loop" ⟨[.ref s.heap.objs.size,.ref (s.heap.push (fresh0 led)).objs.size],[]⟩) R { s with heap:=(s.heap.push (fresh0 led)).push { cls:=.type "tuple_iterator",data:=.fields #[.ref p,.int 0 0] } }:=by
 obtain⟨o,ho,hc,n,hd⟩:=id ht
 have lt:p<s.heap.objs.size:=Heap.lt_size ho
 have e1:(s.heap.push (fresh0 led)).objs.size=s.heap.objs.size+1:=Heap.size_push ..
 have hz:its.size=ns.length:=by rw[<-Array.length_toList];exact hi.length
 have W:=(Walks.tuple (prog:=prog) (w:=w) (A:=A.in1) (by simp[hh]) (s.heap.push (fresh0 led)).objs.size p (by rw[e1];exact Nat.ne_of_lt (Nat.lt_succ_of_lt lt)) its).toS
 have t1:(s.heap.push (fresh0 led)).IsTuple p its:=⟨o,Heap.get?_push_of_some _ ho,hc,n,hd⟩
 refine codeAny_set_update_loopS W s.heap.objs.size (by rw[e1];simp only[List.mem_cons,List.not_mem_nil,or_false,not_or];exact⟨Nat.ne_of_lt (Nat.lt_succ_self _),Nat.ne_of_gt lt⟩) (fun i=>ns.getD i 0) (fun i v q=>hi.int_at i v (by rw[Array.getElem?_toList];exact q)) (by rw[hz];exact hb) its.size 0 _ rfl (Nat.zero_le _)
  ⟨⟨_,Heap.get?_push_size _ rfl,rfl,rfl⟩,t1.push _⟩ ?_ ?_
 ·have g:((s.heap.push (fresh0 led)).push { cls:=.type "tuple_iterator",data:=.fields #[.ref p,.int 0 0] }).get? s.heap.objs.size=some (fresh0 led):=Heap.get?_push_of_some _ (Heap.get?_push_size _ rfl)
  exact SetOf_congr ((setObjOf_fresh (knd:=intKind prog w) led).setOf g (by unfold scanBound;omega)) (fun _=>rfl) rfl
 ·intro s' hm hS
  rw[hz] at hS
  obtain⟨h',g',d',tk',os'⟩:=s'
  obtain rfl:g'=s.gens:=hm.gens
  obtain rfl:d'=s.drawn:=hm.drawn
  obtain rfl:os'=s.os:=hm.os
  refine h _ ⟨h',tk',rfl,hS,fun b o e=>?_⟩
  have lb:=Heap.lt_size e
  exact hm.heap b o (by rw[e1];simp only[List.mem_cons,List.not_mem_nil,or_false,not_or];exact⟨Nat.ne_of_lt lb,Nat.ne_of_lt (Nat.lt_succ_of_lt lb)⟩) (Heap.get?_push_of_some _ (Heap.get?_push_of_some _ e))
theorem X1d (hh:A.handled=none)(ht:s.heap.IsTuple p its)(hi:IntsAre its.toList ns)(hb:ns.length+1<scanBound)(led:Bool){R:Value->Shared->Prop}
  (h:∀ s',SetEnd prog w s ns (fun k=>(firstMet (fun i=>ns.getD i 0) ns.length).any (· == k)) s'->R .none s') :
  codeAny (model prog w) A (.call (.builtin "set.__init__") ⟨[.ref s.heap.objs.size,.ref p],[]⟩) (wants R E) { s with heap:=s.heap.push (fresh0 led) }:=by
 have ty:Shared.TypeIs { s with heap:=s.heap.push (fresh0 led) } (.ref s.heap.objs.size) "set":=⟨_,Heap.get?_push_size _ rfl,rfl⟩
 obtain⟨o,ho,hc,n,hd⟩:=id ht
 obtain⟨ocls,odict,odata,oslots⟩:=o
 simp only at hc hd
 subst hc hd
 have ho1:(s.heap.push (fresh0 led)).get? p=some { cls:=.type "tuple",dict:=odict,data:=.seq its n,slots:=oslots }:=Heap.get?_push_of_some _ ho
 have t1:(s.heap.push (fresh0 led)).IsTuple p its:=⟨_,ho1,rfl,n,rfl⟩
 have n1:=F.sub_tuple_set
 have n2:=F.sub_tuple_frozenset
 have n3:(Value.type "tuple" == Value.type "dict")=false:=by decide
 refine codeAny_call_builtin F.called_set.init.plain F.entry_set_init (check_set_init_1 ty ?_)
 unfold Builtin.«set.__init__» noKeywords Builtin.Frozenset.updateFrom
 generalize hP:pyIter=PI
 wp_walk
 subst hP
 refine wpAny_pyIter_tuple t1 (wpAny_bind (wpAny_runValue (X1i (by simp[hh]) ht hi hb led fun s' e=>?_)))
 exact wpAny_pure (wpAny_pure (h _ e))
theorem X3h (hh:A.handled=none)(ht:s.heap.IsTuple p its)(hi:IntsAre its.toList ns)(hb:ns.length+1<scanBound){Q:Value->Shared->Prop}
  (h:∀ s',SetEnd prog w s ns (fun k=>(firstMet (fun i=>ns.getD i 0) ns.length).any (· == k)) s'->Q (.ref s.heap.objs.size) s'):wpAny (model prog w) A (call (.type "set") [.ref p]) Q E s:=by
 obtain⟨c,tl,hmro⟩:=F.called_set.mro
 have m1:=F.called_set.made
 have m2:=F.called_set.sub
 have m3:=F.called_set.notType
 have m4:=F.called_set.canCreate
 have m5:=F.typeCall_set_1 (.ref p)
 refine wpAny_call (codeAny_of_tree ?_)
 show wpAny _ _ (callAny (.type "set") _) _ _ _
 refine wpAny_pure ⟨Code.quiet_builtin _ (by decide +kernel),codeAny_builtin F.entry_type_call ?_⟩
 rw[Around.under_plain (weight_type_call_type "set" [.ref p] []) rfl]
 repeat any_goals first | assumption | wp_step
 refine codeAny_mono (code_set_new_1 (.ref p) (E:=E) (Q₁:=fun ob s₁=>∃ led:Bool,ob=.ref s.heap.objs.size/\s₁={ s with heap:=s.heap.push (fresh0 led) }) fun led=>⟨led,rfl,rfl⟩) fun r s₁ hr=>?_
 rcases r with e | fl
 ·exact hr
 cases fl with
 | ret ob =>
  obtain⟨led,rfl,rfl⟩:=hr
  have ty:Shared.TypeIs { s with heap:=s.heap.push (fresh0 led) } (.ref s.heap.objs.size) "set":=⟨_,Heap.get?_push_size _ rfl,rfl⟩
  have i1:=F.called_set.init.lookup
  have i2:=F.called_set.init.bind (.ref s.heap.objs.size)
  repeat any_goals first | assumption | wp_step
  refine codeAny_mono (X1d (E:=E) (R:=fun r s'=>r=.none/\SetEnd prog w s ns (fun k=>(firstMet (fun i=>ns.getD i 0) ns.length).any (· == k)) s') (by simp[hh]) ht hi hb led fun s' e=>⟨rfl,e⟩) fun r₂ s₂ hr₂=>?_
  rcases r₂ with e | fl₂
  ·exact hr₂
  cases fl₂ with
  | ret r =>
   obtain⟨rfl,e⟩:=hr₂
   repeat any_goals first | assumption | wp_step
   exact h _ e
  | next=>exact hr₂.elim
  | brk=>exact hr₂.elim
  | cont=>exact hr₂.elim
 | next=>exact hr.elim
 | brk=>exact hr.elim
 | cont=>exact hr.elim
end
theorem Z6z:∀ {ns:List Int}{us:List Value},Vals (ns.map V.int) us->IntsAre us ns
 | [],_,.nil=>.nil
 | n::ns,_,.cons r rs=>by
  obtain⟨t,rfl⟩:=r
  exact .cons n t (Z6z rs)
section
variable {X:Cx}
theorem Y8q (hc:X.calm=true):CallR X (.type "set") (fun xs H Q=>∃ (p:Addr) (ns:List Int),xs=[.ref p]/\SqT X.K H p (ns.map V.int)/\ns.length<64/\∀ (l:Addr) (S:Int->Bool),H l=none->Q (.ref l) (upd H l (.set S (unlike ns)))):=by
 intro pins s σ H xs us Q I r h
 obtain⟨p,ns,rfl,hS,h64,q⟩:=h
 obtain⟨u,rfl,rx⟩:=vals1 r
 cases rx
 obtain⟨its,rv,ht,_⟩:=I.tuple hS
 obtain⟨o,ho,hcl,n,hd⟩:=ht
 refine X3h (I.ok.hd hc) ⟨o,ho,hcl,n,hd⟩ (ns:=ns) (Z6z (by simpa using rv)) (by unfold scanBound;omega) fun s' ⟨h',tk,e,hs,hk⟩=>?_
 subst e
 exact⟨.ref s.heap.objs.size,_,I.laid (o:=.set _ (unlike ns)) (t':=tk) hk (Nat.le_refl _) hs,rfl,q _ _ (I.hok.fresh (Nat.le_refl _))⟩
theorem Y0i:CallR X (.builtin "len") (fun xs H Q=>∃ (p:Addr) (S:Int->Bool) (n:Nat),xs=[.ref p]/\H p=some (.set S n)/\n<64/\Q (.int n) H):=by
 intro pins s σ H xs us Q I r h
 obtain⟨p,S,n,rfl,hp,h64,q⟩:=h
 obtain⟨u,rfl,rx⟩:=vals1 r
 cases rx
 have hs:s.heap.SetOf (intKind X.prog X.w) p S n:=I.hok p _ hp
 obtain⟨o,ho,hso⟩:=hs.objOf
 obtain⟨hex,es,ep,t,hd,_,_,hn,hf⟩:=hso
 subst hn
 exact call_len_set ho hex hd hf (by omega) ⟨.int es.size,H,(I.tok _).tok _,⟨_,rfl⟩,q⟩
end
end L2
namespace L2
open PySem PySem.Spec PyProof.Rows
section
variable {X:Cx}{e st:Expr}{lo hi:Option Expr}{te:TE}{tl th ts:TO}{p2 pos:Pos}
end
end L2
namespace HT
open PySem PySem.Spec PyProof.Rows
section
variable {prog:Program}{w:World}{A:Around}{E:Value->Shared->Prop}{s:Shared}
theorem Z5q {t sl:Addr}{items:Array Value}{vl vu:Value}{lo hi:Option Int}{Q:Value->Shared->Prop}(ht:IsTup s.heap t items)(hs:s.heap.IsSliceOf sl vl vu .none)(pl:IsPart vl lo)(pu:IsPart vu hi)
  (h1:sIx items.size 0 lo=0) (h2:sIx items.size items.size hi=items.size) (h:Q (.ref t) s):wpAny (model prog w) A (getItem (.ref t) (.ref sl)) Q E s:=by
 obtain⟨os,hos,hcs,hds⟩:=id hs
 have ty:s.TypeIs (.ref sl) "slice":=⟨os,hos,hcs⟩
 unfold getItem
 try with_reducible refine wpAny_holding ?_
 first | refine wpAny_bind (wpAny_pure ?_) | skip
 refine wpAny_bind (wpAny_sequenceKey ht.typeIs (by decide) (wpAny_bind (wpAny_callSpecial?_slot (name:=Str.ofString "__getitem__") ht.typeIs PyProof.Rows.slot_tuple_getitem (wpAny_call_entry PyProof.Rows.slot_tuple_getitem ht.typeIs entry_tuple_getitem ?_ (args_tuple_getitem _ _)))))
 show wpAny _ _ (Builtin.Tuple.tupleItemsOf (.ref t) >>= _) _ _ s;refine wpAny_bind (tupleItemsOf_ ht (wpAny_bind (wpAny_typeOf ty ?_)));rw[if_pos (by decide)]
 refine wpAny_bind (Z3v hs pl pu ?_)
 show wpAny _ _ (if (((sIx items.size 0 lo:Nat):Int) == 0 && (1:Int) == 1 && (sIx items.size items.size hi-sIx items.size 0 lo) == items.size)=true then _ else _) _ _ s;rw[if_pos (by rw[h1,h2];simp)]
 refine wpAny_bind ?_
 unfold Builtin.Tuple.tupleIsExact
 refine wpAny_bind (wpAny_typeOf ht.typeIs (wpAny_pure ?_))
 rw[if_pos (by decide)]
 exact wpAny_bind (wpAny_rule (wpAny_pure ⟨_,rfl,wpAny_pure h⟩))
end
end HT
namespace L2
open PySem PySem.Spec PyProof.Rows
section
variable {X:Cx}
def rSlA (K:PySem.W.Frag):V->Option Int->Option Int->Hp->VK->Prop:=fun x lo hi H Q=>∃ a xs,x=.ref a/\SqT K H a xs ∧
 ((HT.sIx xs.length 0 lo=0/\HT.sIx xs.length xs.length hi=xs.length)/\Q (.ref a) H∨¬ (HT.sIx xs.length 0 lo=0/\HT.sIx xs.length xs.length hi=xs.length)/\∀ p,H p=none->Q (.ref p) (upd H p (.tup (cutV xs lo hi))))
theorem Z6m:SlR X (rSlA X.K):=by
 intro pins s σ H x v vl vu lo hi sl Q I rx hs pl pu h
 obtain⟨a,xs,rfl,hx,⟨hw,q⟩ | ⟨hw,q⟩⟩:=h
 ·cases rx
  obtain⟨its,r,ht,hz⟩:=I.tuple hx
  have hlen:=r.length
  refine⟨"tuple",_,slot_tuple_getitem.lookup,ht.typeIs,HT.Z5q ht hs pl pu (by rw[List.size_toArray,<-hlen];exact hw.1) (by rw[List.size_toArray,<-hlen];exact hw.2) ⟨.ref a,H,I,rfl,q⟩⟩
 ·exact Y6a pins s σ H _ v vl vu lo hi sl Q I rx hs pl pu ⟨a,xs,rfl,hx,hw,q⟩
end
end L2
namespace L2
open PySem PySem.Spec PyProof.Rows
theorem Y5j {prog:Program}{w:World}{A:Around}{env:Env}{c:Expr}{s:Shared}{Q:Bool->Shared->Prop}(h:wpAny (model prog w) A (isTrue c env (eval c env)) Q Calm s) :
  wpAny (model prog w) A (forIn [c] true fun c r=>if r=true then do let ok ← isTrue c env (eval c env);pure (ForInStep.yield ok) else pure (ForInStep.yield r)) Q Calm s:=wpAny_tests_one h
theorem Z7g {prog:Program}{w:World}{A:Around}{R:Result->Shared->Prop}{s:Shared}{e t i c:Expr}{sc:Scope}{pos:Pos}{it acc:Value}{env:Env}(J:Nat->Shared->Prop)
  (turn:∀ n s,J n s->wpAny (model prog w) A (pyNext it) (fun r s1=>(r=none->R (.ok .next) s1)/\∀ v,r=some v →
   wpAny (model prog w) A (letOwnedTupleGo t it v) (fun _ s2=>wpAny (model prog w) A (assign t env v) (fun _ s3=>wpAny (model prog w) A (isTrue c env (eval c env)) (fun ok s3'=>if ok=true then wpAny (model prog w) A (eval e env) (fun x s4 =>
    wpAny (model prog w) A (call (.builtin "list.append") [acc,x]) (fun _ s5=>∃ m,m<n/\J m s5) Calm s4) Calm s3' else ∃ m,m<n/\J m s3') Calm s3) Calm s2) Calm s1) Calm s)
  (n:Nat) (h:J n s):codeAny (model prog w) A (.compLoop (.ListComp e [⟨t,i,[c],0⟩] sc pos) 0 it acc env) R s:=by
 have eq:=compTurn_list e t i [c] sc pos it acc env
 refine codeAny_loop rfl J (fun n s j=>wpAny_noted (m:=compTurn (.ListComp e [⟨t,i,[c],0⟩] sc pos) 0 it acc env) ?_) n h
 rw[eq]
 refine wpAny_bind (wpAny_standAt (thenC (turn n s j) fun r s1 q=>?_))
 match r,q with
 | none,q=>exact wpAny_pure (q.1 rfl)
 | some v,q =>
  refine thenC (q.2 v rfl) fun _ s2 q2=>thenC q2 fun _ s3 q3=>thenC (Y5j q3) fun ok s4 q4=>?_
  cases ok with
  | false=>exact wpAny_pure ⟨rfl,q4⟩
  | true=>exact wpAny_bind (thenC q4 fun x s5 q5=>thenC q5 fun _ s6 q6=>wpAny_pure (wpAny_pure ⟨rfl,q6⟩))
def LcWF (J:It)(g:TG)(tc:TT)(te:TE)(σ:St)(H:Hp)(acc:Addr)(Q:VK):Prop:=∃ W:Nat->Nat->List V->St->Hp->Prop,(∃ m,W 0 m [] σ (upd H acc (.lst []))) ∧
 ∀ i m ys σ2 H2,W i m ys σ2 H2->(J.stop i H2/\Q (.ref acc) H2)∨(J.go i H2/\∀ x H3,J.yld i H2 x H3->g x σ2 H3 fun σ4 H4=>tc σ4 H4 fun b H5 =>
  (b=true->te σ4 H5 fun y H6=>H6 acc=some (.lst ys)/\ys.length<sizeLine/\∃ m',m'<m/\W (i+1) m' (ys++[y]) σ4 (upd H6 acc (.lst (ys++[y]))))/\(b=false->∃ m',m'<m/\W (i+1) m' ys σ4 H5))
def tLcF (mp:List (Option Nat))(wi:TI)(g:TG)(tc:TT)(te:TE):TE:=fun σ H Q=>wi σ H fun J H1=>∀ acc,H1 acc=none->LcWF J g tc te (sub mp σ) H1 acc Q
section
variable {X:Cx}{elt tg iter cond:Expr}{scope:Scope}{pos:Pos}{wi:TI}{g:TG}{tc:TT}{te:TE}{Nc:List Str}{mp:List (Option Nat)}
theorem Y7q (hc:X.calm=true)(S:LcOk X.N X.env.scope scope Nc mp)(hg:∀ ex pins s H,PG (cxLc X scope Nc ex pins s H) tg g)(ht:∀ ex pins s H,PT (cxLc X scope Nc ex pins s H) cond tc)(he:∀ ex pins s H,PE (cxLc X scope Nc ex pins s H) elt te)
  {pins:List (Addr × Obj)}{σ:St}{H2:Hp}{s2:Shared}{E:Value->Shared->Prop}{it:Addr}{fp:List Addr}{tn:Nat->Heap->Prop}{J:It}{Q:VK}{RR:Value->Addr->Result->Shared->Prop}
  (I2:Inv X pins σ H2 s2) (T:Turn X.prog X.w X.K tg J fp it tn) (st2:tn 0 s2.heap) (f2:∀ b∈fp,FpOk X pins H2 b)
  (q:∀ acc,H2 acc=none->LcWF J g tc te (sub mp σ) H2 acc Q)
  (fin:∀ acc C H' s' m',Q (.ref acc) H'->Inv X pins σ H' s'->s'.heap.Ns C m'->H' C=none->X.s₀.heap.objs.size<=C->C≠X.env.locals->(∀ x c,X.env.cells.lookup x=some c->c≠C)->(∀ p∈X.pn++pins,p.1≠C)->RR (.ref acc) C (.ok .next) s') :
  wpAny (model X.prog X.w) X.A (newList []) (fun acc s₃=>wpAny (model X.prog X.w) X.A (newFunctionEnv scope X.env.globals (clo scope.names X.env.cells) [] X.env.qual none .none (some X.env)) (fun cenv s₄ =>
   codeAny (model X.prog X.w) X.A (.compStart (.ListComp elt [⟨tg,iter,[cond],0⟩] scope pos) 0 (.ref it) acc { cenv with scope:=relabel scope X.env }) (RR acc cenv.locals) s₄) E s₃) E s2:=by
 refine wpAny_newObj_type (wpAny_newFunctionEnv S.nocell (by intro y hy;simp at hy) (fun h₁ hns₁ hsb₁=>?_) S.kind)
 dsimp only at hns₁ hsb₁ ⊢
 have I3:=I2.lnew (its:=[]) (ys:=[]) (t':=s2.toks) .nil (Nat.zero_le _)
 have hacc:H2 s2.heap.objs.size=none:=I2.fresh
 obtain⟨W,⟨m0,w0⟩,turn⟩:=q s2.heap.objs.size hacc
 have hpush:(s2.heap.push { cls:=.type "list",dict:=none,data:=.seq ([]:List Value).toArray }).objs.size=s2.heap.objs.size+1:=Heap.size_push ..
 have hlt:∀ b∈fp,b<s2.heap.objs.size:=fun b hb=>by
  obtain⟨o,e,_⟩:=T.obj _ _ st2 b hb
  exact Heap.lt_size e
 have f3:∀ b∈fp,FpOk X pins (upd H2 s2.heap.objs.size (.lst [])) b:=fun b hb=>⟨by rw[Z0x (Nat.ne_of_lt (hlt b hb))];exact(f2 b hb).1,(f2 b hb).2⟩
 have I3':Inv X pins σ (upd H2 s2.heap.objs.size (.lst [])) (Z0t s2):=I3
 have hsz:(Z0t s2).heap.objs.size=s2.heap.objs.size+1:=hpush
 have hlt3:∀ b∈fp,b<(Z0t s2).heap.objs.size:=fun b hb=>by rw[hsz];exact Nat.lt_succ_of_lt (hlt b hb)
 have k3:∀ b o,(Z0t s2).heap.get? b=some o->h₁.get? b=some o:=fun b o e=>hsb₁.extBut b o (Nat.ne_of_lt (Heap.lt_size e)) (Heap.get?_push_of_some _ e)
 have Ic:=Y3p (tk:=(Z0t s2).toks) I3' S f3 hlt3 hns₁ k3
 have st3:tn 0 h₁:=T.keep _ _ _ st2 fun b hb o e=>k3 b o (Heap.get?_push_of_some _ e)
 have cC:X.s₀.heap.objs.size<=(Z0t s2).heap.objs.size:=I3'.sz
 have cL:(Z0t s2).heap.objs.size≠X.env.locals:=Nat.ne_of_gt I3'.lt
 have cc:∀ x c,X.env.cells.lookup x=some c->c≠(Z0t s2).heap.objs.size:=fun x c e=>by
  obtain⟨v,o,ho,_⟩:=I3'.cell x c e
  exact Nat.ne_of_lt (Heap.lt_size ho)
 have cp:∀ p∈X.pn++pins,p.1≠(Z0t s2).heap.objs.size:=fun p hp=>Nat.ne_of_lt (Heap.lt_size (I3'.pin p hp).1)
 have stat:∀ {H':Hp},(∀ b∈fp,H' b=none)->∀ b∈fp,FpOk (cxLc X scope Nc fp pins (Z0t s2) (upd H2 s2.heap.objs.size (.lst []))) [] H' b:=fun hn b hb =>
  ⟨hn b hb,Nat.ne_of_lt (hlt3 b hb),fun z=>by
   rcases List.mem_cons.mp (I3'.stkSub b z) with e | e
   ·exact(f3 b hb).2.1 e
   ·exact(f3 b hb).2.2.1 e,.inl hb,fun x c e=>(f3 b hb).2.2.2.2.1 x c (Z5x I3' S e),fun p hp=>(f3 b hb).2.2.2.2.2 p (by
    have:p∈(X.pn++pins)++[]:=hp
    simpa using this)⟩
 have loop:∀ s4:Shared,s4={ (Z0t s2) with heap:=h₁,toks:=(Z0t s2).toks } →
   codeAny (model X.prog X.w) X.A (.compLoop (.ListComp elt [⟨tg,iter,[cond],0⟩] scope pos) 0 (.ref it) (.ref s2.heap.objs.size) (cxLc X scope Nc fp pins (Z0t s2) (upd H2 s2.heap.objs.size (.lst []))).env)
    (RR (.ref s2.heap.objs.size) (Z0t s2).heap.objs.size) s4:=by
  rintro s4 rfl
  refine Z7g (fun n s'=>∃ i ys σ' H',Inv (cxLc X scope Nc fp pins (Z0t s2) (upd H2 s2.heap.objs.size (.lst []))) [] σ' H' s'/\tn i s'.heap/\(∀ b∈fp,H' b=none)/\W i n ys σ' H') ?_ m0
   ⟨0,[],sub mp σ,_,Ic,st3,fun b hb=>(f3 b hb).1,w0⟩
  rintro n s5 ⟨i,ys,σ5,H5,I5,st5,fr5,w5⟩
  rcases turn i n ys σ5 H5 w5 with ⟨stop,qn⟩ | ⟨go,step⟩
  ·refine wpAny_mono (T.done (cxLc X scope Nc fp pins (Z0t s2) (upd H2 s2.heap.objs.size (.lst []))) rfl rfl rfl hc i [] s5 σ5 H5 (fun _ _=>False) I5 (stat fr5) st5 stop) (fun r s6 ⟨hr,I6⟩=>?_) fun _ _ f=>f.elim
   subst hr
   obtain⟨m6,hn6,_⟩:=I6.loc
   refine⟨fun _=>?_,fun _ z=>nomatch z⟩
   exact fin _ _ H5 s6 m6 qn (X2n I3' f3 I6) hn6 I6.free cC cL cc cp
  ·refine wpAny_mono (T.item (cxLc X scope Nc fp pins (Z0t s2) (upd H2 s2.heap.objs.size (.lst []))) rfl rfl rfl hc i [] s5 σ5 H5 (fun _ _=>False) I5 (stat fr5) st5 go) (fun r s6 ⟨u,hr,h6⟩=>?_) fun _ _ f=>f.elim
   subst hr
   refine⟨(fun z=>by cases z),?_⟩
   rintro _ ⟨⟩
   refine wpAny_mono h6 (fun _ s7 ⟨x,H7,I7,r7,y7,st7,fr7⟩=>?_) fun _ _ f=>f.elim
   have I7':=I7.pinned (stat fr7) (T.obj _ _ st7)
   refine wpAny_mono (hg _ _ _ _ _ s7 σ5 H7 x u _ I7' r7 (step x H7 y7)) (fun _ s8 ⟨σ8,H8,I8,q8⟩=>?_) fun _ _ f=>f.elim
   refine wpAny_mono (ht _ _ _ _ _ s8 σ8 H8 _ I8 q8) (fun bb s9 ⟨H9,I9,p9,n9⟩=>?_) fun _ _ f=>f.elim
   have keeps:∀ {H':Hp}{s':Shared},Inv (cxLc X scope Nc fp pins (Z0t s2) (upd H2 s2.heap.objs.size (.lst []))) ([]++pinsAt fp s7.heap) σ8 H' s'->tn (i+1) s'.heap/\∀ b∈fp,H' b=none:=fun {H' s'} J' =>
    ⟨T.keep _ _ _ st7 fun b hb o e=>(J'.pin (b,o) (List.mem_append_right _ (List.mem_append_right _ (Z3a hb e)))).1,fun b hb=>by
     obtain⟨o,e,d⟩:=T.obj _ _ st7 b hb
     exact(J'.pin (b,o) (List.mem_append_right _ (List.mem_append_right _ (Z3a hb e)))).2.1⟩
   cases bb with
   | false =>
    obtain⟨m',hm',w9⟩:=n9 rfl
    rw[if_neg Bool.false_ne_true]
    exact⟨m',hm',i+1,ys,σ8,H9,I9.unpinned,(keeps I9).1,(keeps I9).2,w9⟩
   | true =>
    rw[if_pos rfl]
    refine wpAny_mono (he _ _ _ _ _ s9 σ8 H9 _ I9 (p9 rfl)) (fun v s10 ⟨y,H10,I10,r10,a10,l10,m',hm',w10⟩=>?_) fun _ _ f=>f.elim
    refine wpAny_mono (Z2m (X:=cxLc X scope Nc fp pins (Z0t s2) (upd H2 s2.heap.objs.size (.lst []))) _ s10 σ8 H10 (.ref s2.heap.objs.size) [y] (.ref s2.heap.objs.size) [v] (fun z Hz=>z=.non/\Hz=upd H10 s2.heap.objs.size (.lst (ys++[y]))) I10 rfl (.cons r10 .nil) ⟨_,ys,y,rfl,rfl,a10,l10,rfl,rfl⟩) (fun v11 s11 ⟨z,H11,I11,_,_,e11⟩=>?_) fun _ _ f=>f.elim
    subst e11
    exact⟨m',hm',i+1,ys++[y],σ8,_,I11.unpinned,(keeps I11).1,(keeps I11).2,w10⟩
 exact codeAny_compStart_list (loop _ rfl) (T.self _ 0 _ _ _ st3 (loop _ rfl))
theorem Y3f (hc:X.calm=true)(S:LcOk X.N X.env.scope scope Nc mp)(hi:PI X tg iter wi)(hg:∀ ex pins s H,PG (cxLc X scope Nc ex pins s H) tg g)(ht:∀ ex pins s H,PT (cxLc X scope Nc ex pins s H) cond tc)(he:∀ ex pins s H,PE (cxLc X scope Nc ex pins s H) elt te)
  (hf:∀ x,foldedSetIterable iter X.env x=pure x:=by intro _;rfl):PE X (.ListComp elt [⟨tg,iter,[cond],0⟩] scope pos) (tLcF mp wi g tc te):=by
 intro pins s σ H Q I h
 rw[eval_ListComp]
 refine wpAny_comprehension_free (use:=none) rfl hf (Z4l (Z5g I S)) S.kind S.names (thn (hi pins s σ H _ I h) fun v s1 h1=>thn h1 fun itv s2 h2=>?_)
 obtain⟨it,fp,tn,J,H2,e,I2,T,st2,f2,q⟩:=h2
 subst e
 refine Y7q (RR:=fun acc C=>compPost (model X.prog X.w) X.A X.xe none (EP X pins σ Q) acc C) hc S hg ht he I2 T st2 f2 q ?_
 intro acc C H' s' m' qq I' hn hC c1 c2 c3 c4
 refine⟨m',hn,fun h' hs=>⟨.ref acc,H',?_,rfl,qq⟩⟩
 exact I'.turnedNew (t':=s'.toks) (fun b o hb e=>hs.extBut b o hb e) hC c1 c2 c3 c4
theorem Z4z {i:Nat}{x:Str}{pos' spos:Pos}(hc:X.calm=true)(hN:X.N.Nodup)(hi':X.N[i]?=some x)(hx:X.env.scope.names.lookup x=some .local)(S:LcOk X.N X.env.scope scope Nc mp)(hi:PI X tg iter wi)
  (hg:∀ ex pins s H,PG (cxLc X scope Nc ex pins s H) tg g) (ht:∀ ex pins s H,PT (cxLc X scope Nc ex pins s H) cond tc) (he:∀ ex pins s H,PE (cxLc X scope Nc ex pins s H) elt te)
  (hsw:swapsWith (.ListComp elt [⟨tg,iter,[cond],0⟩] scope pos) (some (.Name x pos')) spos.line X.env=pure true)
  (hf:∀ x,foldedSetIterable iter X.env x=pure x:=by intro _;rfl):PS X (.Assign [.Name x pos'] (.ListComp elt [⟨tg,iter,[cond],0⟩] scope pos) spos) (tAsg (tLcF mp wi g tc te) (gName i)):=by
 intro pins s σ H D I h
 rw[exec_Assign_Name_used _ _ _ _ hsw]
 refine wpAny_bind (wpAny_standAt (wpAny_bind ?_))
 show wpAny _ X.A (do let _ ← comprehension (.ListComp elt [⟨tg,iter,[cond],0⟩] scope pos) scope X.env _ (newList []) false (eval iter X.env) (some (assign (.Name x pos') X.env))) _ _ s
 refine wpAny_bind (wpAny_mono (wpAny_comprehension_free (use:=some (assign (.Name x pos') X.env)) (Q:=fun _ s'=>SP X pins D .next s') rfl hf (Z4l (Z5g I S)) S.kind S.names
  (thn (hi pins s σ H _ I h) fun v s1 h1=>thn h1 fun itv s2 h2=>?_)) (fun _ s' hq=>wpAny_pure (wpAny_pure hq)) fun _ _ e=>e)
 obtain⟨it,fp,tn,J,H2,e,I2,T,st2,f2,q⟩:=h2
 subst e
 refine Y7q (Q:=fun x H1=>gName i x σ H1 D.nx) (RR:=fun acc C=>compPost (model X.prog X.w) X.A X.xe (some (assign (.Name x pos') X.env)) (fun _ s'=>SP X pins D .next s') acc C) hc S hg ht he I2 T st2 f2 q ?_
 intro acc C H' s' m' qq I' hn hC c1 c2 c3 c4
 show wpAny _ X.A (assign (.Name x pos') X.env (.ref acc)) _ _ _
 refine wpAny_assign_Name (Z6i (v:=.ref acc) I' hN hi' (.inl hx) rfl (fun s5 I5 ⟨a,hs5,ha⟩=>?_) (.inr hx))
 have hCa:C≠a:=by
  rcases ha with z | z
  ·rw[z];exact c2
  ·exact Ne.symm (c3 x a z)
 refine⟨m',hn.sameBut hs5 hCa,fun h' hs=>⟨σ.set i (some (.ref acc)),H',?_,qq⟩⟩
 exact I5.turnedNew (t':=s5.toks) (fun b o hb e=>hs.extBut b o hb e) hC c1 c2 c3 c4
end
def tTruI (t:TE):TT:=fun σ H Q=>t σ H fun x H'=>∃ i,x=.int i/\Q (i != 0) H'
theorem Z8k {X:Cx}{a:Expr}{ta:TE}(ha:PE X a ta)(he:∀ whole,isTrue a X.env whole=(do let v ← whole;standAt a.pos;holding [v] (truthy v))):PT X a (tTruI ta):=by
 intro pins s σ H Q I h
 refine isTrue_plain (thn (ha pins s σ H _ I h) fun v s1 ⟨x,H1,I1,r1,i,e,q1⟩=>?_) (he _)
 subst e
 exact X6m pins s1 σ H1 (.int i) v Q I1 r1 ⟨_,rfl,q1⟩
theorem Z5h {lo:Int}{n:Nat}{tc:TT}{te:TE}{fr:St}{H1:Hp}{acc:Addr}{Q:VK}(Pv:Nat->List V->Hp->Prop)(hn:n<=sizeLine)(h0:Pv 0 [] (upd H1 acc (.lst [])))
  (hs:∀ i ys H (N:Bool->Hp->Prop),i<n->ys.length<=i->Pv i ys H->(∀ b H5,(b=true->te (some (.int (lo+i))::fr) H5 fun y H6=>H6 acc=some (.lst ys)/\Pv (i+1) (ys++[y]) (upd H6 acc (.lst (ys++[y]))))->(b=false->Pv (i+1) ys H5)->N b H5)->tc (some (.int (lo+i))::fr) H N)
  (mono:∀ {σ H}{R R':VK},(∀ v H,R v H->R' v H)->te σ H R->te σ H R')
  (hd:∀ ys H,Pv n ys H->Q (.ref acc) H):LcWF (Itr lo n) (gName 0) tc te (none::fr) H1 acc Q:=by
 refine⟨fun i m ys σ2 H2=>m=n-i/\i<=n/\ys.length<=i/\(∃ v,σ2=v::fr)/\Pv i ys H2,⟨n,by simp,Nat.zero_le _,Nat.le_refl _,⟨_,rfl⟩,h0⟩,?_⟩
 rintro i m ys σ2 H2 ⟨rfl,hi,hl,⟨v,rfl⟩,p⟩
 by_cases hlt:i<n
 ·refine .inr ⟨hlt,fun x H3 y3=>?_⟩
  obtain⟨rfl,rfl⟩:=y3
  show tc ((v::fr).set 0 (some (.int (lo+i)))) _ _
  rw[List.set_cons_zero]
  refine hs i ys _ _ hlt hl p fun b H5 ht hf=>⟨fun e=>mono (fun y H6 q=>?_) (ht e),fun e=>⟨n-(i+1),by omega,rfl,hlt,by omega,⟨_,rfl⟩,hf e⟩⟩
  exact⟨q.1,by omega,n-(i+1),by omega,rfl,hlt,by rw[List.length_append];simp;omega,⟨_,rfl⟩,q.2⟩
 ·have e:i=n:=by omega
  subst e
  exact .inl ⟨Nat.le_refl _,hd ys H2 p⟩
end L2
namespace K62
open PySem PySem.Spec PyProof.Rows L2 Am Pc Ba
theorem Z3q {X:Cx}{st:Stmt}:PS X st (fun _ _ _=>False):=fun _ _ _ _ _ _ h=>h.elim
theorem Z4a {ns:List Int}(h:ns.Nodup):unlike ns=ns.length:=by
 have key:∀ i,i<=ns.length->(firstMet (fun i=>ns.getD i 0) i).length=i:=by
  intro i
  induction i with
  | zero=>intro _;rfl
  | succ i ih =>
   intro hi
   rw[firstMet_succ,step_length,firstMet_any,if_neg,ih (by omega)]
   intro z
   obtain⟨y,hy,e⟩:=List.any_eq_true.mp z
   obtain⟨j,hj,rfl⟩:=List.mem_map.mp hy
   have hj:=List.mem_range.mp hj
   have e:ns.getD j 0=ns.getD i 0:=by simpa using e
   rw[List.getD_eq_getElem?_getD,List.getD_eq_getElem?_getD,List.getElem?_eq_getElem (by omega),List.getElem?_eq_getElem (by omega)] at e
   have:=(List.getElem_inj h).mp e
   omega
 exact key _ (Nat.le_refl _)
abbrev NB:List (Str × Int):=[("flip",1),("mix",1),("turn",2),("if",2),("pair",2),("swap",2),("cross",3)]
abbrev MvT (nm:Str)(ns:List Int):HO:=.tup (.str nm::ns.map V.int)
def named (nm:Str)(ns:List Int):List Int:=if nm="turn" then ns.take 1 else ns
structure Form (nm:Str) (ns:List Int):Prop where
 num:numAt NB nm=some (.int ns.length)
 len:ns.length<=3
 turn:nm="turn"->∃ a k,ns=[a,k]/\1<=k/\k<=7
structure Fits (nm:Str) (ns:List Int) (c:Nat):Prop where
 form:Form nm ns
 low:∀ a∈named nm ns,0<=a/\a<c
 nd:(named nm ns).Nodup
def Z9k:Sp:=fun vs H Q _=>∃ (p:Addr) (nm:Str) (ns:List Int),vs=[.ref p]/\H p=some (MvT nm ns)/\Form nm ns/\∀ H',Same H H'->Q (.bl true) H'
def Y0y:Sp:=fun vs H Q _=>∃ (p:Addr) (nm:Str) (ns:List Int),vs=[.ref p]/\H p=some (MvT nm ns)/\Form nm ns/\∀ (r:Addr) (H':Hp),Same H H'->H' r=some (.tup ((named nm ns).map V.int))->Q (.ref r) H'
def Y5w:Sp:=fun vs H Q _=>∃ (p:Addr) (nm:Str) (ns:List Int) (c:Nat),vs=[.ref p,.int c]/\H p=some (MvT nm ns)/\Fits nm ns c/\∀ H',Same H H'->Q (.ref p) H'
def Z6l (K:PySem.W.Frag):Sp:=fun vs H Q _=>∃ (l:Addr) (xs:List V) (c:Nat),vs=[.ref l]/\SqL K H l xs/\xs.length=2^c/\c<=6/\Q (.int c) H
theorem Z8y {c:Nat}(h:c<=6):Builtin.Int.intBits (((2^c:Nat):Int))=c+1:=by
 have:c=0∨c=1∨c=2∨c=3∨c=4∨c=5∨c=6:=by omega
 rcases this with rfl | rfl | rfl | rfl | rfl | rfl | rfl<;>decide +kernel
theorem at0 {x:V}{xs:List V}:atI (x::xs) 0=some x:=Z4k (show (x::xs)[0]?=some x from rfl)
theorem Z7q {x:V}{xs:List V}:HT.sIx (x::xs).length 0 (some 1)=1:=by
 have:=HT.Y6c (x::xs).length 0 1
 rw[show ((1:Nat):Int)=1 from rfl] at this
 rw[this]
 simp
theorem Y1t {x:V}{xs:List V}:cutV (x::xs) (some 1) none=xs:=by
 unfold cutV
 rw[Z7q]
 have e2:HT.sIx (x::xs).length (x::xs).length none=(x::xs).length:=rfl
 rw[e2]
 simp
theorem X7h (K:PySem.W.Frag):PySem.W.kitOne K (.type "str") (.type "str")=some true:=by unfold PySem.W.kitOne;rw[if_pos (by decide)]
section
variable {P:Program}{w:World}{K:PySem.W.Frag}{mg:Str->Option Value}{base:Heap}{k:Nat}{h:Heap}
theorem sc_iswhole:FnScope ["thing"] ["thing"] (Z0i (top 7)):=fS
theorem Z5n (F:FunAt K "is_whole" (top 7) .none)(X:K.In h)(G:h.Ns mainGlobals mg)(B:Bs mg):Cal P w K mg base (k+1) "is_whole" ["thing"] Z3d:=by
 have nd:=sc_iswhole.nd
 refine F.cal X G sc_iswhole (bnd1 fun _ _ _ _ _ _ _=>rfl) (fun vs H Q E h=>?_) (fun f cdv A outer s H vs Q E hr h=>?_)
 ·obtain⟨i,rfl,_⟩:=h;rfl
 obtain⟨i,rfl,q⟩:=h
 refine⟨_,(@Z0g _ _ _ (Z0j (Z5c (Z0q Z1f rfl B.isinstance boot_isinstance (Z0a (pv 0) (Z0a (Z2x (v:=.ty "int") rfl B.int boot_int rfl) Z0d))) (Z3x (Y3e (Z0q Z1f rfl B.isinstance boot_isinstance (Z0a (pv 0) (Z0a (Z2x (v:=.ty "bool") rfl B.bool boot_bool rfl) Z0d)))))))),?_⟩
 try dsimp only[cxK]
 refine⟨_,rfl,_,_,_,true,rfl,TyOf.int i,Y7s K,_,rfl,iteT ?_⟩
 exact⟨_,rfl,_,_,_,false,rfl,TyOf.int i,Y7t K,_,rfl,q⟩
theorem sc_cellsof:FnScope ["board"] ["board"] (Z0i (top 29)):=fS
theorem Y4v (F:FunAt K "cells_of" (top 29) .none)(X:K.In h)(G:h.Ns mainGlobals mg)(B:Bs mg):Cal P w K mg base (k+1) "cells_of" ["board"] (Z6l K):=by
 have nd:=sc_cellsof.nd
 refine F.cal X G sc_cellsof (bnd1 fun _ _ _ _ _ _ _=>rfl) (fun vs H Q E h=>?_) (fun f cdv A outer s H vs Q E hr h=>?_)
 ·obtain⟨l,xs,c,rfl,_⟩:=h;rfl
 obtain⟨l,xs,c,rfl,hl,len,c6,q⟩:=h
 refine⟨_,(@Z0g _ _ _ (Z0j (Z0h Z1z (Z5b PySem.F.plainAttrs_int PySem.F.slot_int_bit_length PySem.F.type_int_bit_length Z2l (Z0q Z0v rfl B.len PySem.boot_len (Z0a (pv 0) Z0d))) Z0b))),?_⟩
 try dsimp only[cxK]
 refine⟨_,rfl,l,_,rfl,.inl hl,rfl,_,rfl,rfl,_,_,rfl,rfl,?_⟩
 show Q (.int (((Builtin.Int.intBits ((xs.length:Nat):Int):Nat):Int)-1)) H
 rw[len,Z8y c6,show (((c+1:Nat):Int)-1)=(c:Int) by omega]
 exact q
theorem sc_named:FnScope ["move"] ["move"] (Z0i (top 59)):=fS
theorem X0h (F:FunAt K "named_cells" (top 59) .none)(X:K.In h)(G:h.Ns mainGlobals mg)(B:Bs mg):Cal P w K mg base (k+1) "named_cells" ["move"] Y0y:=by
 have nd:=sc_named.nd
 refine F.cal X G sc_named (bnd1 fun _ _ _ _ _ _ _=>rfl) (fun vs H Q E h=>?_) (fun f cdv A outer s H vs Q E hr h=>?_)
 ·obtain⟨p,nm,ns,rfl,_⟩:=h;rfl
 obtain⟨p,nm,ns,rfl,hp,FO,kq⟩:=h
 have SP:SqT K H p (.str nm::ns.map V.int):=SqT.of hp
 refine⟨_,(@Z0g _ _ _ (Z0j (Z5a (Z0o Z1u (Z0n Z0l (pv 0) Z0b (fun _ _=>rfl)) Z2b (nomark _)) (Z2k Z6m (pv 0) (Z2j Z0b) (Z2j Z0b)) (Z2k Z6m (pv 0) (Z2j Z0b) Z4d)))),?_⟩
 try dsimp only[cxK]
 refine⟨_,rfl,p,_,_,.str nm,rfl,rfl,SP,at0,rfl,_,rfl,decI (fun z=>?_) (fun z=>?_)⟩
 ·have e:nm="turn":=V.str.inj z
  obtain⟨a,kk,rfl,_⟩:=FO.turn e
  refine⟨_,rfl,_,rfl,_,rfl,p,_,rfl,SP,.inr ⟨fun c=>absurd c.1 (by rw[Z7q];decide),fun r hr=>kq r _ (Z0f hr _) ?_⟩⟩
  rw[Z0c]
  unfold named
  rw[if_pos e]
  rfl
 ·have e:nm≠"turn":=fun c=>z (by rw[c])
  refine⟨_,rfl,_,rfl,p,_,rfl,SP,.inr ⟨fun c=>absurd c.1 (by rw[Z7q];decide),fun r hr=>kq r _ (Z0f hr _) ?_⟩⟩
  rw[Z0c,Y1t]
  unfold named
  rw[if_neg e]
theorem sc_form:FnScope ["thing"] ["thing"] (Z0i (top 58)):=fS
theorem X4l (F:FunAt K "has_move_form" (top 58) .none)(X:K.In h)(G:h.Ns mainGlobals mg)(B:Bs mg){aN:Addr}(gN:mg "NUMBERS_BEHIND"=some (.ref aN))(DN:KDic K w.params aN NB)(c_is_whole:Cal P w K mg base k "is_whole" ["thing"] Z3d) :
  Cal P w K mg base (k+1) "has_move_form" ["thing"] Z9k:=by
 have nd:=sc_form.nd
 refine F.cal X G sc_form (bnd1 fun _ _ _ _ _ _ _=>rfl) (fun vs H Q E h=>?_) (fun f cdv A outer s H vs Q E hr h=>?_)
 ·obtain⟨p,nm,ns,rfl,_⟩:=h;rfl
 obtain⟨p,nm,ns,rfl,hp,FO,kq⟩:=h
 have SP:SqT K H p (.str nm::ns.map V.int):=SqT.of hp
 have l3:=FO.len
 have lm:(V.str nm::ns.map V.int).length=ns.length+1:=by rw[List.length_cons,List.length_map]
 refine⟨_,(@Z0e _ _ _ _ _ (Z0y (PW.pt (Z3y (Z2f (Z1l (Z0q Z1f rfl B.isinstance boot_isinstance (Z0a (pv 0) (Z0a (Z2x (v:=.ty "tuple") rfl B.tuple boot_tuple rfl) Z0d))))) (Z3w (Z0o Z1u (Z0q Z0v rfl B.len PySem.boot_len (Z0a (pv 0) Z0d)) Z0b (nomark _)))))
   (@Z0g _ _ _ (Z0j Z2w))
   Z0p)
  (@Z0e _ _ _ _ _ (Z0y (PW.pt (Z3y (Z2f (Z1l (Z0q Z1f rfl B.isinstance boot_isinstance (Z0a (Z0n Z0l (pv 0) Z0b (fun _ _=>rfl)) (Z0a (Z2x (v:=.ty "str") rfl B.str boot_str rfl) Z0d))))) (Z3w (Y6f (Y6l DN (Z0n Z0l (pv 0) Z0b (fun _ _=>rfl)) (Z3g (v:=.ref aN) rfl gN rfl))))))
   (@Z0g _ _ _ (Z0j Z2w))
   Z0p)
  (@Z0e _ _ _ _ _ (Z0y (Z0o Z5d (Z0q Z0v rfl B.len PySem.boot_len (Z0a (pv 0) Z0d)) (Z0h Z1c Z0b (X3r DN (Z3g (v:=.ref aN) rfl gN rfl) (Z0n Z0l (pv 0) Z0b (fun _ _=>rfl)) (fun _ _=>rfl))) (nomark _))
   (@Z0g _ _ _ (Z0j Z2w))
   Z0p)
  (@Z0e _ _ _ _ _ (Z0y (Z2f (Z1l (Z0q (Z2h rfl) rfl B.all boot_all (Z0a (Z3k rfl (LcOk.of (Nc:=["number"]) (mp:=[none]) (by kernel_rfl)) (Y3c (Z2k Z6m (pv 0) (Z2j Z0b) Z4d)) (fun _ _ _ _=>(Z0m (i:=0) (show (["number"]:List Str).Nodup by decide +kernel) rfl (Or.inl rfl))) (fun _ _ _ _=>(Z0k c_is_whole hr rfl (Z0a (pv 0) Z0d)))) Z0d))))
   (@Z0g _ _ _ (Z0j Z2w))
   Z0p)
  (@Z0g _ _ _ (Z0j (X3q (Z1n Z5d (Z0n Z0l (pv 0) Z0b (fun _ _=>rfl)) Z2b (nomark _)) (Z3x (Z5c (Z1n Y4o (Z0n Z0l (pv 0) Z0b (fun _ _=>rfl)) Z0b (nomark _)) (Z3x (Z1n X3x (Z0n Z0l (pv 0) Z0b (fun _ _=>rfl)) Z0b (nomark _)))))))))))),?_⟩
 try dsimp only[cxK]
 refine⟨_,rfl,_,_,_,true,rfl,TyOf.tup hp,Y3r K,_,rfl,iteF ⟨_,rfl,p,_,rfl,.inr SP,rfl,_,rfl,eqI (fun z=>absurd z (by rw[lm];omega)) (fun _=>?_)⟩⟩
 refine⟨_,rfl,p,_,_,.str nm,rfl,rfl,SP,at0,_,_,_,true,rfl,TyOf.str nm,X7h K,_,rfl,iteF ⟨_,rfl,p,_,_,.str nm,rfl,rfl,SP,at0,nm,rfl,_,rfl,?_⟩⟩
 rw[FO.num]
 refine iteF ⟨_,rfl,p,_,rfl,.inr SP,_,rfl,p,_,_,.str nm,rfl,rfl,SP,at0,nm,_,rfl,FO.num,_,_,rfl,rfl,rfl,_,rfl,neI (fun z=>absurd (by rw[lm];omega) z) (fun _=>?_)⟩
 refine⟨_,rfl,_,rfl,p,_,rfl,SP,.inr ⟨fun c=>absurd c.1 (by rw[Z7q];decide),fun r hr=>?_⟩⟩
 rw[Y1t]
 have s1:=Z0f hr (.tup (ns.map V.int))
 refine⟨r,rfl,⟨_,SqT.of Z0c⟩,fun acc hacc=>?_⟩
 refine Y1o (K:=K) (fun _=>.bl true) (SqT.of Z0c) (t64 (by omega)) hacc (fun n H2 N hn S2 kN=>⟨_,rfl,n,rfl,kN⟩) (fun H3 S3 a3=>?_)
 have e:ns.map (fun _=>V.bl true)=(ns.map fun _=>true).map V.bl:=by rw[List.map_map];rfl
 rw[e] at a3
 have S03:=s1.trans S3
 have SP3:SqT K H3 p (.str nm::ns.map V.int):=SqT.of (S03 _ _ hp)
 refine⟨acc,_,rfl,SqL.of a3,_,rfl,nblI (fun z=>absurd z (by simp)) (fun _=>?_)⟩
 refine⟨_,rfl,p,_,_,.str nm,rfl,rfl,SP3,at0,rfl,_,rfl,nblI (fun _=>kq _ S03) (fun z=>?_)⟩
 obtain⟨a,kk,rfl,k1,k7⟩:=FO.turn (V.str.inj (of_decide_eq_true z))
 refine⟨_,rfl,p,_,_,.int kk,rfl,rfl,SP3,rfl,_,_,rfl,rfl,_,rfl,decI (fun _=>?_) (fun z=>absurd k1 z)⟩
 refine⟨_,rfl,p,_,_,.int kk,rfl,rfl,SP3,rfl,_,_,rfl,rfl,?_⟩
 show Q (.bl (decide (kk<=7))) H3
 rw[decide_eq_true k7]
 exact kq _ S03
theorem sc_check:FnScope ["move","cells","named"] ["move","cells"] (Z0i (top 57)):=fS
theorem X0p (F:FunAt K "check_move" (top 57) .none)(X:K.In h)(G:h.Ns mainGlobals mg)(B:Bs mg)(c_has_move_form:Cal P w K mg base k "has_move_form" ["thing"] Z9k)(c_named_cells:Cal P w K mg base k "named_cells" ["move"] Y0y) :
  Cal P w K mg base (k+1) "check_move" ["move","cells"] Y5w:=by
 have nd:=sc_check.nd
 refine F.cal X G sc_check (bnd2 fun _ _ _ _ _ _ _ _=>rfl) (fun vs H Q E h=>?_) (fun f cdv A outer s H vs Q E hr h=>?_)
 ·obtain⟨p,nm,ns,c,rfl,_⟩:=h;rfl
 obtain⟨p,nm,ns,c,rfl,hp,FI,kq⟩:=h
 have l3:(named nm ns).length<=3:=by
  have:=FI.form.len
  unfold named
  split
  ·rw[List.length_take];omega
  ·exact this
 refine⟨_,(@Z0e _ _ _ _ _ (Z0y (Z2f (Z1l (Z0k c_has_move_form hr rfl (Z0a (pv 0) Z0d))))
   (@Z0g _ _ _ Z3q)
   Z0p)
  (@Z0e _ _ _ _ _ (@Z0r _ _ 2 _ _ _ _ nd rfl (Or.inl rfl) (Z0k c_named_cells hr rfl (Z0a (pv 0) Z0d)) rfl (.inl rfl))
  (@Z0e _ _ _ _ _ (Z0y (Z1l (Z0q (Y0j rfl) rfl B.any boot_any (Z0a (Z3k rfl (LcOk.of (Nc:=["cell","cells"]) (mp:=[none,some 1]) (by kernel_rfl)) (Y3c (pv 2)) (fun _ _ _ _=>(Z0m (i:=0) (show (["cell","cells"]:List Str).Nodup by decide +kernel) rfl (Or.inl rfl))) (fun _ _ _ _=>(X3q (Z1n Z6u (pv 0) Z0b (nomark _)) (Z3x (Z1n Y4o (pv 0) (pv 1) (nomark _)))))) Z0d)))
   (@Z0g _ _ _ Z3q)
   Z0p)
  (@Z0e _ _ _ _ _ (Z0y (Z0o Z5d (Z0q Y0i rfl B.len PySem.boot_len (Z0a (Z4f (Y8q rfl) rfl B.set boot_set (Z0a (pv 2) Z0d)) Z0d)) (Z0q Z0v rfl B.len PySem.boot_len (Z0a (pv 2) Z0d)) (nomark _))
   (@Z0g _ _ _ Z3q)
   Z0p)
  (@Z0g _ _ _ (Z0j (pv 0))))))),?_⟩
 try dsimp only[cxK]
 refine⟨_,rfl,p,nm,ns,rfl,hp,FI.form,fun H1 S1=>⟨_,rfl,iteF ?_⟩⟩
 refine⟨_,rfl,p,nm,ns,rfl,S1 _ _ hp,FI.form,fun r H2 S2 hr=>?_⟩
 have SR:SqT K H2 r ((named nm ns).map V.int):=SqT.of hr
 refine⟨_,rfl,r,rfl,⟨_,SR⟩,fun acc hacc=>?_⟩
 refine Y1o (K:=K) (fun _=>.bl false) SR (t64 (by omega)) hacc (fun n H2 N hn S2 kN=>?_) (fun H3 S3 a3=>?_)
 ·obtain⟨n0,nc⟩:=FI.low n hn
  refine⟨_,rfl,_,_,rfl,rfl,_,rfl,decI (fun z=>absurd z (by omega)) (fun _=>?_)⟩
  refine⟨_,rfl,_,rfl,_,_,rfl,rfl,?_⟩
  show N (.bl (decide ((c:Int)<=n))) _
  rw[decide_eq_false (by omega)]
  exact kN
 have e:(named nm ns).map (fun _=>V.bl false)=((named nm ns).map fun _=>false).map V.bl:=by rw[List.map_map];rfl
 rw[e] at a3
 refine⟨acc,_,rfl,SqL.of a3,_,rfl,?_⟩
 rw[show ((named nm ns).map fun _=>false).any id=false by simp]
 refine iteF ?_
 refine⟨_,rfl,r,_,rfl,S3.tup SR,by omega,fun l S hl=>?_⟩
 have s4:=Z0f hl (.set S (unlike (named nm ns)))
 have un:=Z4a FI.nd
 refine⟨l,S,_,rfl,Z0c,by omega,_,rfl,r,_,rfl,.inr (s4.tup (S3.tup SR)),rfl,_,rfl,neI (fun z=>absurd (by rw[un,List.length_map]) z) (fun _=>?_)⟩
 exact⟨_,rfl,kq _ (((S1.trans S2).trans S3).trans s4)⟩
end
inductive Mv where
 | flip (a:Nat)
 | turn (a k:Nat)
 | iff (a b:Nat)
 | pair (a b:Nat)
 | swap (a b:Nat)
 | cross (a b d:Nat)
def exch (w a b:Nat):Nat:=if w&&&(2^a ||| 2^b)=2^a∨w&&&(2^a ||| 2^b)=2^b then w^^^(2^a ||| 2^b) else w
namespace Mv
def nm:Mv->Str
 | flip _=>"flip"
 | turn _ _=>"turn"
 | iff _ _=>"if"
 | pair _ _=>"pair"
 | swap _ _=>"swap"
 | cross _ _ _=>"cross"
def ns:Mv->List Int
 | flip a=>[(a:Int)]
 | turn a k=>[(a:Int),(k:Int)]
 | iff a b=>[(a:Int),(b:Int)]
 | pair a b=>[(a:Int),(b:Int)]
 | swap a b=>[(a:Int),(b:Int)]
 | cross a b d=>[(a:Int),(b:Int),(d:Int)]
def Ok (c:Nat):Mv->Prop
 | flip a=>a<c
 | turn a k=>a<c/\1<=k/\k<=7
 | iff a b=>a<c/\b<c/\a≠b
 | pair a b=>a<c/\b<c/\a≠b
 | swap a b=>a<c/\b<c/\a≠b
 | cross a b d=>a<c/\b<c/\d<c/\a≠b/\a≠d/\b≠d
def to (w:Nat):Mv->Nat
 | flip a=>w^^^2^a
 | iff a b=>if w&&&2^a=0 then w else w^^^2^b
 | swap a b=>exch w a b
 | cross a b d=>if w&&&2^a=0 then w else exch w b d
 | _=>w
def sp (w:Nat):Mv->Nat
 | turn a k=>if w&&&2^a=2^a then k else 0
 | pair a b=>if w&&&(2^a ||| 2^b)=(2^a ||| 2^b) then 4 else 0
 | _=>0
end Mv
abbrev at2 (w a:Nat):Nat:=w / 2^a%2
def c1 (c a w:Nat):Bool:=decide ((Mv.flip a).to w<2^c) && decide ((Mv.flip a).to ((Mv.flip a).to w)=w) && decide ((w:Int)+(1-2*(at2 w a:Int))*((2^a:Nat):Int)=((Mv.flip a).to w:Nat)) &&
 decide ((if w&&&2^a=2^a then 1 else 0)=at2 w a)
def c2 (c a b w:Nat):Bool:=decide (a=b) || (decide ((Mv.iff a b).to w<2^c) && decide ((Mv.iff a b).to ((Mv.iff a b).to w)=w) && decide ((w:Int)+(at2 w a:Int)*(1-2*(at2 w b:Int))*((2^b:Nat):Int)=((Mv.iff a b).to w:Nat)) &&
 decide ((Mv.swap a b).to w<2^c) && decide ((Mv.swap a b).to ((Mv.swap a b).to w)=w) && decide ((w:Int)+((at2 w b:Int)-(at2 w a:Int))*(((2^a:Nat):Int)-((2^b:Nat):Int))=((Mv.swap a b).to w:Nat)) &&
 decide (4*at2 w a*at2 w b=(Mv.pair a b).sp w))
def c3 (c a b d w:Nat):Bool:=decide (a=b) || decide (a=d) || decide (b=d) || (decide ((Mv.cross a b d).to w<2^c) && decide ((Mv.cross a b d).to ((Mv.cross a b d).to w)=w) &&
 decide ((w:Int)+(at2 w a:Int)*((at2 w d:Int)-(at2 w b:Int))*(((2^b:Nat):Int)-((2^d:Nat):Int))=((Mv.cross a b d).to w:Nat)))
theorem X8f:((List.range 7).all fun c=>(List.range c).all fun a=>(List.range (2^c)).all fun w=>c1 c a w)=true:=by decide +kernel
theorem X8e:((List.range 7).all fun c=>(List.range c).all fun a=>(List.range c).all fun b=>(List.range (2^c)).all fun w=>c2 c a b w)=true:=by decide +kernel
theorem X8d:((List.range 7).all fun c=>(List.range c).all fun a=>(List.range c).all fun b=>(List.range c).all fun d=>(List.range (2^c)).all fun w=>c3 c a b d w)=true:=by decide +kernel
theorem get1 {p:Nat->Bool}{n i:Nat}(h:(List.range n).all p=true)(hi:i<n):p i=true:=List.all_eq_true.mp h i (List.mem_range.mpr hi)
section
variable {c a b d w:Nat}
theorem X9l (hc:c<=6)(ha:a<c)(hw:w<2^c):c1 c a w=true:=get1 (get1 (get1 X8f (by omega:c<7)) ha) hw
theorem X9k (hc:c<=6)(ha:a<c)(hb:b<c)(hw:w<2^c):c2 c a b w=true:=get1 (get1 (get1 (get1 X8e (by omega:c<7)) ha) hb) hw
theorem X9j (hc:c<=6)(ha:a<c)(hb:b<c)(hd:d<c)(hw:w<2^c):c3 c a b d w=true:=get1 (get1 (get1 (get1 (get1 X8d (by omega:c<7)) ha) hb) hd) hw
theorem X2r (hc:c<=6)(ha:a<c)(hw:w<2^c):(Mv.flip a).to w<2^c/\(Mv.flip a).to ((Mv.flip a).to w)=w/\(w:Int)+(1-2*(at2 w a:Int))*((2^a:Nat):Int)=((Mv.flip a).to w:Nat)/\(if w&&&2^a=2^a then 1 else 0)=at2 w a:=by
 have:=X9l hc ha hw
 unfold c1 at this
 simp only[Bool.and_eq_true,decide_eq_true_eq] at this
 exact⟨this.1.1.1,this.1.1.2,this.1.2,this.2⟩
theorem X1j (hc:c<=6)(ha:a<c)(hb:b<c)(n:a≠b)(hw:w<2^c):((Mv.iff a b).to w<2^c/\(Mv.iff a b).to ((Mv.iff a b).to w)=w/\(w:Int)+(at2 w a:Int)*(1-2*(at2 w b:Int))*((2^b:Nat):Int)=((Mv.iff a b).to w:Nat)) ∧
  ((Mv.swap a b).to w<2^c/\(Mv.swap a b).to ((Mv.swap a b).to w)=w/\(w:Int)+((at2 w b:Int)-(at2 w a:Int))*(((2^a:Nat):Int)-((2^b:Nat):Int))=((Mv.swap a b).to w:Nat))/\4*at2 w a*at2 w b=(Mv.pair a b).sp w:=by
 have:=X9k hc ha hb hw
 unfold c2 at this
 rw[decide_eq_false n,Bool.false_or] at this
 simp only[Bool.and_eq_true,decide_eq_true_eq] at this
 obtain⟨⟨⟨⟨⟨⟨h1,h2⟩,h3⟩,h4⟩,h5⟩,h6⟩,h7⟩:=this
 exact⟨⟨h1,h2,h3⟩,⟨h4,h5,h6⟩,h7⟩
theorem Y8g (hc:c<=6)(ha:a<c)(hb:b<c)(hd:d<c)(n1:a≠b)(n2:a≠d)(n3:b≠d)(hw:w<2^c):(Mv.cross a b d).to w<2^c/\(Mv.cross a b d).to ((Mv.cross a b d).to w)=w ∧
  (w:Int)+(at2 w a:Int)*((at2 w d:Int)-(at2 w b:Int))*(((2^b:Nat):Int)-((2^d:Nat):Int))=((Mv.cross a b d).to w:Nat):=by
 have:=X9j hc ha hb hd hw
 unfold c3 at this
 rw[decide_eq_false n1,decide_eq_false n2,decide_eq_false n3,Bool.false_or,Bool.false_or,Bool.false_or] at this
 simp only[Bool.and_eq_true,decide_eq_true_eq] at this
 exact⟨this.1.1,this.1.2,this.2⟩
end
theorem Mv.to_lt {v:Mv}{c w:Nat}(hc:c<=6)(h:v.Ok c)(hw:w<2^c):v.to w<2^c:=by
 cases v with
 | flip a=>exact(X2r hc h hw).1
 | turn a k=>exact hw
 | iff a b=>exact(X1j hc h.1 h.2.1 h.2.2 hw).1.1
 | pair a b=>exact hw
 | swap a b=>exact(X1j hc h.1 h.2.1 h.2.2 hw).2.1.1
 | cross a b d=>exact(Y8g hc h.1 h.2.1 h.2.2.1 h.2.2.2.1 h.2.2.2.2.1 h.2.2.2.2.2 hw).1
theorem Mv.to_to {v:Mv}{c w:Nat}(hc:c<=6)(h:v.Ok c)(hw:w<2^c):v.to (v.to w)=w:=by
 cases v with
 | flip a=>exact(X2r hc h hw).2.1
 | turn a k=>rfl
 | iff a b=>exact(X1j hc h.1 h.2.1 h.2.2 hw).1.2.1
 | pair a b=>rfl
 | swap a b=>exact(X1j hc h.1 h.2.1 h.2.2 hw).2.1.2.1
 | cross a b d=>exact(Y8g hc h.1 h.2.1 h.2.2.1 h.2.2.2.1 h.2.2.2.2.1 h.2.2.2.2.2 hw).2.1
theorem Mv.fits {v:Mv}{c:Nat}(h:v.Ok c):Fits v.nm v.ns c:=by
 cases v with
 | flip a =>
  have e:named "flip" [(a:Int)]=[(a:Int)]:=by unfold named;rw[if_neg (by decide +kernel)]
  have h:a<c:=h
  exact⟨⟨(show numAt NB "flip"=some (.int ((1:Nat):Int)) by decide +kernel),(show 1<=3 by decide),fun z=>absurd (show ("flip":Str)="turn" from z) (by decide +kernel)⟩,by show ∀ x∈named "flip" [(a:Int)],_;rw[e];intro b hb;rw[List.mem_singleton.mp hb];omega,by show (named "flip" [(a:Int)]).Nodup;rw[e];simp⟩
 | turn a k =>
  have e:named "turn" [(a:Int),(k:Int)]=[(a:Int)]:=by unfold named;rw[if_pos rfl];rfl
  have h:a<c/\1<=k/\k<=7:=h
  exact⟨⟨(show numAt NB "turn"=some (.int ((2:Nat):Int)) by decide +kernel),(show 2<=3 by decide),fun _=>⟨a,k,rfl,by omega,by omega⟩⟩,by show ∀ x∈named "turn" [(a:Int),(k:Int)],_;rw[e];intro b hb;rw[List.mem_singleton.mp hb];omega,by show (named "turn" [(a:Int),(k:Int)]).Nodup;rw[e];simp⟩
 | iff a b =>
  have e:named "if" [(a:Int),(b:Int)]=[(a:Int),(b:Int)]:=by unfold named;rw[if_neg (by decide +kernel)]
  have h:a<c/\b<c/\a≠b:=h
  exact⟨⟨(show numAt NB "if"=some (.int ((2:Nat):Int)) by decide +kernel),(show 2<=3 by decide),fun z=>absurd (show ("if":Str)="turn" from z) (by decide +kernel)⟩,by show ∀ x∈named "if" [(a:Int),(b:Int)],_;rw[e];intro x hx;simp at hx;omega,by show (named "if" [(a:Int),(b:Int)]).Nodup;rw[e];simp;omega⟩
 | pair a b =>
  have e:named "pair" [(a:Int),(b:Int)]=[(a:Int),(b:Int)]:=by unfold named;rw[if_neg (by decide +kernel)]
  have h:a<c/\b<c/\a≠b:=h
  exact⟨⟨(show numAt NB "pair"=some (.int ((2:Nat):Int)) by decide +kernel),(show 2<=3 by decide),fun z=>absurd (show ("pair":Str)="turn" from z) (by decide +kernel)⟩,by show ∀ x∈named "pair" [(a:Int),(b:Int)],_;rw[e];intro x hx;simp at hx;omega,by show (named "pair" [(a:Int),(b:Int)]).Nodup;rw[e];simp;omega⟩
 | swap a b =>
  have e:named "swap" [(a:Int),(b:Int)]=[(a:Int),(b:Int)]:=by unfold named;rw[if_neg (by decide +kernel)]
  have h:a<c/\b<c/\a≠b:=h
  exact⟨⟨(show numAt NB "swap"=some (.int ((2:Nat):Int)) by decide +kernel),(show 2<=3 by decide),fun z=>absurd (show ("swap":Str)="turn" from z) (by decide +kernel)⟩,by show ∀ x∈named "swap" [(a:Int),(b:Int)],_;rw[e];intro x hx;simp at hx;omega,by show (named "swap" [(a:Int),(b:Int)]).Nodup;rw[e];simp;omega⟩
 | cross a b d =>
  have e:named "cross" [(a:Int),(b:Int),(d:Int)]=[(a:Int),(b:Int),(d:Int)]:=by unfold named;rw[if_neg (by decide +kernel)]
  have h:a<c/\b<c/\d<c/\a≠b/\a≠d/\b≠d:=h
  exact⟨⟨(show numAt NB "cross"=some (.int ((3:Nat):Int)) by decide +kernel),(show 3<=3 by decide),fun z=>absurd (show ("cross":Str)="turn" from z) (by decide +kernel)⟩,by show ∀ x∈named "cross" [(a:Int),(b:Int),(d:Int)],_;rw[e];intro x hx;simp at hx;omega,by show (named "cross" [(a:Int),(b:Int),(d:Int)]).Nodup;rw[e];simp;omega⟩
end K62
namespace L2
open PySem PySem.Spec PyProof.Rows
theorem intsBy:∀ {us:List Value}{ks:List Int},us.length=ks.length->(∀ (j:Nat) u,us[j]?=some u->∃ (k:Int) (t:Tok),ks[j]?=some k/\u=Value.int k t)->IntsAre us ks
 | [],[],_,_=>.nil
 | u::us,k::ks,hl,h=>by
  obtain⟨k',t,e,rfl⟩:=h 0 u rfl
  cases e
  exact .cons _ _ (intsBy (Nat.succ.inj hl) fun j u q=>h (j+1) u q)
def Gath (s:Shared)(P:Nat->Value->Prop)(n:Nat)(q:Result)(s':Shared):Prop:=q=.ok (.ret (.ref s.heap.objs.size))/\∃ h' tk,s'={ s with heap:=h',toks:=tk }/\(∀ b o,s.heap.get? b=some o->h'.get? b=some o) ∧
 ∃ acc c,ItemsOf P acc n/\h'.get? s.heap.objs.size=some { cls:=.type "list",dict:=none,data:=.seq acc c,slots:=#[] }
theorem gather {prog:Program}{w:World}{A:Around}{E:Value->Shared->Prop}{s:Shared}{T:String}{r d:Addr}{n:Nat}{P:Nat->Value->Prop}{OK:Heap->Prop}{R:List Value->Shared->Prop}(K:PySem.W.KdlSrc prog w T r d n P OK)(hh:A.handled=none)(hok:OK s.heap)(hn:n<=sizeLine)
  (h:∀ (h':Heap) (tk:Nat) (acc:Array Value),(∀ b o,s.heap.get? b=some o->h'.get? b=some o)->s.heap.objs.size<h'.objs.size->ItemsOf P acc n->R acc.toList { s with heap:=h',toks:=tk }):wpAny (model prog w) A (collect (.ref r)) R E s:=by
 obtain⟨l1,l2⟩:=K.there _ hok
 have up:∀ b o,s.heap.get? b=some o->(s.heap.push { cls:=.type "list",data:=.seq ([]:List Value).toArray }).get? b=some o:=fun b o e=>Heap.get?_push_of_some _ e
 have grown:=PySem.W.kdl_extend (A:=A) (s:={ s with heap:=s.heap.push { cls:=.type "list",data:=.seq ([]:List Value).toArray } }) (R:=Gath s P n) K hh (K.keep _ _ hok fun b _=>up b) s.heap.objs.size (Nat.ne_of_gt l1) (Nat.ne_of_gt l2) (.ref s.heap.objs.size) 0
  (Heap.get?_push_size _ rfl) (fun h' tk acc c hk hS hI=>⟨rfl,h',tk,rfl,fun b o e=>hk b o (Nat.ne_of_lt (Heap.lt_size e)) (up b o e),acc,c,hI,hS⟩) hn
 unfold collect;refine wpAny_bind (wpAny_runValue (codeAny_builtin entry_proto_collect' ?_));rw[Around.under_plainId PySem.F.plain_proto_collect _]
 show wpAny _ A.in1 (newList [] >>= fun l=>again (.builtin "list.__iadd__" ⟨[l,.ref r],[]⟩)) _ _ s;refine wpAny_bind (wpAny_newObj_type (wpAny_pure ⟨plainId_quiet PySem.F.plain_list_iadd _,codeAny_builtin entry_list_iadd' ?_⟩))
 rw[Around.under_plainId PySem.F.plain_list_iadd _];refine wpAny_mono grown (fun f s' x=>?_) fun e s' x=>by cases x.1
 cases f with
 | done f =>
  obtain⟨e,h',tk,rfl,hk,acc,c,hI,hS⟩:=x
  cases e
  exact wpAny_bind (wpAny_load hS (wpAny_pure (h h' tk acc hk (Heap.lt_size hS) hI)))
 | again c =>
  refine⟨x.1,codeAny_mono x.2 fun q s2 y=>?_⟩
  obtain⟨rfl,h',tk,rfl,hk,acc,c,hI,hS⟩:=y
  exact wpAny_bind (wpAny_load hS (wpAny_pure (h h' tk acc hk (Heap.lt_size hS) hI)))
theorem Y0g {X:Cx}(hc:X.calm=true):CallR X (.builtin "sorted") (fun xs H Q=>∃ (p:Addr) (kvs:List (Key × V)) (ks:List Int),xs=[.ref p]/\H p=some (.dK kvs)/\kvs.map (·.1)=ks.map Sum.inl/\kvs.length<64 ∧
  ∀ (l:Addr) (ks':List Int),H l=none->ks'.Perm ks->ks'.Pairwise (·<=·)->Q (.ref l) (upd H l (.lst (ks'.map V.int)))):=by
 intro pins s σ H xs us Q I r h
 obtain⟨p,kvs,ks,rfl,hp,hk,hn,q⟩:=h
 obtain⟨u,rfl,rx⟩:=vals1 r
 cases rx
 obtain⟨z,lo,vs,kv,dd⟩:=X7y I.hok hp
 obtain⟨ep,hat⟩:=dd.dictAt
 have hl:kvs.length=vs.length:=kv.length
 have hkeys:kvs.map (·.1)=vs.map (·.1):=kv.keys
 rw[hk] at hkeys
 have hkl:ks.length=vs.length:=by have:=congrArg List.length hkeys;simpa using this
 have l64:(64:Nat)<=sizeLine:=by decide
 refine Calls.call_function_entry kind_sorted plain_sorted entry_sorted (args_sorted1 _) ?_
 unfold Builtin.«sorted»
 refine wpAny_bind (m:=checkCount "sorted" 1 1 _) (wpAny_pure ?_)
 refine wpAny_bind (gather (A:=X.A.in1) (PySem.W.kdl_dict (knd:=Z1v X.prog X.w) (kvs:=vs) (ep:=ep) lo) (I.ok.hd hc) hat (by omega) fun h' tk acc hk' hlt' hacc=>?_)
 have hsz:=Nat.le_of_lt hlt'
 have hal:acc.toList.length=vs.length:=by rw[Array.length_toList];exact hacc.1
 have hI:IntsAre acc.toList ks:=intsBy (hal.trans hkl.symm) fun j u e=>by
  obtain⟨k,x,ek,is⟩:=hacc.2 j u (by rw[<-Array.getElem?_toList];exact e)
  have e2:(ks.map Sum.inl:List Key)[j]?=some k:=by rw[hkeys,List.getElem?_map,ek];rfl
  rw[List.getElem?_map] at e2
  cases e3:ks[j]? with
  | none=>rw[e3] at e2;cases e2
  | some i =>
   rw[e3] at e2
   cases e2
   rcases Z1o (show keyIs (Sum.inl i) u=true from is) with ⟨i',t,e4,e5⟩ | ⟨x',t,e4,e5⟩
   ·cases e4
    exact⟨i,t,rfl,e5⟩
   ·cases e4
 refine wpAny_bind (wpAny_newList ?_ (by omega))
 have hoL:(h'.push (seqObj "list" acc.toList.toArray 0)).get? h'.objs.size=some (seqObj "list" acc.toList.toArray 0):=Heap.get?_push_size _ rfl
 refine wpAny_bind (wpAny_holding (wpAny_call_entry slot_list_sort ⟨_,hoL,rfl⟩ entry_list_sort (list_sort_tree hoL hI (by omega) fun out ns' a1 a2 a3=>⟨_,rfl,?_⟩) (args_list_sort _)))
 refine wpAny_pure ⟨_,rfl,?_⟩
 obtain⟨e,he⟩:=sortedHeap_at (out:=out) hoL
 have kp:∀ b o,s.heap.get? b=some o->(sortedHeap (h'.push (seqObj "list" acc.toList.toArray 0)) h'.objs.size acc.toList out).get? b=some o:=fun b o x=>by
  have lt:=Heap.lt_size (hk' b o x)
  rw[sortedHeap_old (Nat.ne_of_lt lt) (by rw[size_push'];exact Nat.lt_succ_of_lt lt)]
  exact Heap.get?_push_of_some _ (hk' b o x)
 have hlo:=a2.length_eq
 have hto:(out.toList).toArray=out:=Array.toArray_toList
 exact⟨.ref h'.objs.size,_,I.laid (t':=tk) kp hsz (show ObjOk X.prog X.w _ _ _ (.lst (ns'.map V.int)) from ⟨by rw[List.length_map];omega,out.toList,e,Z4v a1,by rw[hto];exact he⟩),rfl,q _ ns' (I.hok.fresh hsz) a2 a3⟩
end L2
namespace Dk
open PySem PySem.Spec PyProof.Rows
open Sem (wp)
def Raw (h:Heap)(d:Addr)(es:Array DictEntry)(ep:Nat):Prop:=∃ o,h.get? d=some o/\o.ExactDict/\o.data=.dict es ep
theorem Raw.at {h h':Heap}{d:Addr}{es:Array DictEntry}{ep:Nat}(x:Raw h d es ep)(e:∀ o,h.get? d=some o->h'.get? d=some o):Raw h' d es ep:=let ⟨o,q,r⟩:=x;⟨o,e o q,r⟩
theorem Raw.type {s:Shared}{d:Addr}{es:Array DictEntry}{ep:Nat}(x:Raw s.heap d es ep):s.TypeIs (.ref d) "dict":=let ⟨o,q,r,_⟩:=x;⟨o,q,r.1⟩
section
variable {prog:Program}{w:World}{A:Around}{E:Value->Shared->Prop}{s:Shared}{d it:Addr}{es:Array DictEntry}{i ep:Nat}
theorem iter {Q:Value->Shared->Prop}(lo:(d == sysModules)=false)(x:Raw s.heap d es ep)(q:Q (.ref s.heap.objs.size) { s with heap:=s.heap.push { cls:=.type "dict_keyiterator",data:=.fields #[.ref d,.int 0 0,.int es.size 0,.int ep 0] } }) :
  wpAny (model prog w) A (pyIter (.ref d)) Q E s:=by
 have ty:=x.type
 obtain⟨o,ho,hc,hd⟩:=x
 refine wpAny_pyIter_slot ty F.slot_dict_iter (wpAny_call_entry F.slot_dict_iter ty F.entry_dict_iter ?_ (F.args_dict_iter_1 _))
 unfold Builtin.«dict.__iter__» Builtin.Dict.dictSlotNone Builtin.Dict.showsAll
 refine wpAny_bind (wpAny_bind (wpAny_notOrdered_dict ty (wpAny_pure ?_)));refine wpAny_bind (m:=Builtin.Dict.addrOf (Value.ref d)) (wpAny_pure ?_);rw[if_neg (show ¬ ((d == sysModules)=true) by rw[lo];decide)]
 refine wpAny_bind (wpAny_pure (wpAny_bind (wpAny_dictEntries ho hd (wpAny_bind (wpAny_dictEpoch ho hd (wpAny_bind (wpAny_newObj_type (wpAny_pure ⟨_,rfl,"dict_keyiterator",_,⟨_,Heap.get?_push_size _ rfl,rfl⟩,F.slot_dict_keyiterator_next.lookup,?_⟩))))))))
 simpa [rawInt] using q
theorem step {Q:Option Value->Shared->Prop}(hh:es[i]?=none->A.handled=none)(hi:s.heap.IsKeyIter it d i es.size ep)(x:Raw s.heap d es ep)
  (go:∀ (hlt:i<es.size) h',h'.IsKeyIter it d (i+1) es.size ep->Heap.SameBut it s.heap h'->Q (some es[i].key) { s with heap:=h' })
  (stop:∀ h',es.size<=i->Heap.ExtBut it s.heap h'->Q none { s with heap:=h' }):wpAny (model prog w) A (pyNext (.ref it)) Q E s:=by
 have ty:=hi.typeIs
 obtain⟨o,ho,hc,hd⟩:=id hi
 obtain⟨od,hod,hcd,hdd⟩:=x
 unfold pyNext;refine wpAny_bind (wpAny_attempt (wpAny_callSpecial?_slot (name:=Str.ofString "__next__") ty F.slot_dict_keyiterator_next (wpAny_call_entry F.slot_dict_keyiterator_next ty F.entry_dict_keyiterator_next ?_ (F.args_dict_keyiterator_next_1 _))))
 refine wpAny_bind (wpAny_pure (wpAny_bind (wpAny_bind ?_)))
 first | refine wpAny_bind (wpAny_typeNameOfWhole_keyiter ty (wpAny_pure (wpAny_bind (wpAny_fieldsOf ho hd ?_)))) | refine wpAny_bind (wpAny_typeNameOf_keyiter ty (wpAny_pure (wpAny_bind (wpAny_fieldsOf ho hd ?_))))
 simp only[show Builtin.Dict_items.ownsTuple "dict_keyiterator"=false by decide,Bool.false_eq_true,if_false]
 show wpAny _ _ (if (Value.ref d == Value.none)=true then _ else _) _ _ s;rw[if_neg (show ¬ ((Value.ref d == Value.none)=true) from Bool.false_ne_true)]
 refine wpAny_bind (wpAny_pure (wpAny_bind (wpAny_dictEntries hod hdd ?_)));rw[if_neg (by simp)]
 refine wpAny_bind (wpAny_pure (wpAny_bind (wpAny_dictEpoch hod hdd ?_)));rw[if_neg (by simp)]
 refine wpAny_pure ?_
 rcases Nat.lt_or_ge i es.size with c | c
 ·simp only[show ¬ ((i:Int)<0) by omega,if_false,Int.toNat_natCast,Array.getElem?_eq_getElem c]
  refine wpAny_bind ?_
  first | refine wpAny_bind (wpAny_typeNameOfWhole_keyiter ty (wpAny_pure (wpAny_bind (wpAny_isOneOf_keyiter ty ?_)))) | refine wpAny_bind (wpAny_typeNameOf_keyiter ty (wpAny_pure (wpAny_bind (wpAny_isOneOf_keyiter ty ?_))))
  show wpAny _ _ (setField (.ref it) 1 (rawInt ((i:Int)+1)) >>= _) _ _ s;refine wpAny_bind (wpAny_setField ho hd (by simp) ?_)
  have h2:(s.heap.update it (Obj.mapFields (·.setIfInBounds 1 (rawInt ((i:Int)+1))))).IsKeyIter it d (i+1) es.size ep:=⟨_,Heap.get?_update_self _ ho (Obj.isFreed_of_fields (Obj.data_mapFields hd _)),(Obj.cls_mapFields ..).trans hc,by rw[Obj.data_mapFields hd];simp[rawInt]⟩
  refine wpAny_bind (wpAny_holding (wpAny_bind (wpAny_isOneOf_keyiter (s:={ s with heap:=s.heap.update it (Obj.mapFields (·.setIfInBounds 1 (rawInt ((i:Int)+1)))) }) h2.typeIs ?_)))
  exact wpAny_pure (wpAny_pure ⟨_,rfl,wpAny_pure (go c _ h2 (Heap.SameBut.update ..))⟩)
 ·have h0:=hh (Array.getElem?_eq_none c)
  simp only[show ¬ ((i:Int)<0) by omega,if_false,Int.toNat_natCast,Array.getElem?_eq_none c]
  refine wpAny_bind ?_
  first | refine wpAny_bind (wpAny_typeNameOfWhole_keyiter ty (wpAny_pure ?_)) | refine wpAny_bind (wpAny_typeNameOf_keyiter ty (wpAny_pure ?_))
  show wpAny _ _ (setField (.ref it) 0 .none >>= _) _ _ s;refine wpAny_bind (wpAny_setField ho hd (by simp) ?_)
  show wpAny _ _ (newExc (.type "StopIteration") [] >>= _) _ _ _;refine wpAny_bind ?_
  simp only[newExc,newTuple];refine wpAny_bind (wpAny_newObj_type ?_ (by size_fits));refine wpAny_bind (m:=firstArgMember _ _) (wpAny_of_eq (a:=Value.none) (by first | rfl | (simp only[firstArgMember];rfl)) ?_)
  refine wpAny_newObj_type ?_ (by size_fits);simp only[raiseNew];refine wpAny_bind (wpAny_handled ?_);rw[show A.in1.handled=none from h0]
  refine wpAny_bind (wpAny_pure (wpAny_throw ?_));refine wpAny_bind (wpAny_isInstance (T:="StopIteration") (b:=true) ⟨_,Heap.get?_push_size _ rfl,rfl⟩ isSubtype_stop ?_)
  exact wpAny_pure (stop _ c (((Heap.SameBut.update ..).extBut.push _).push _))
theorem walks (hh:A.handled=none)(I d:Addr)(hne:d≠I)(es:Array DictEntry)(ep:Nat) :
  Walks prog w A I [I,d] [I] es.size (fun i v=>∃ e,es[i]?=some e/\v=e.key) (fun i h=>h.IsKeyIter I d i es.size ep/\Raw h d es ep) where
 sub:=fun b hb=>by simp at hb;simp[hb]
 frame:=fun _ _ _ st hk=>⟨st.1.at fun o e=>hk I (by simp) o e,st.2.at fun o e=>hk d (by simp) o e⟩
 item:=fun i s Q E hi st hQ=>step (fun _=>hh) st.1 st.2 (fun c h' k' sb=>hQ _ h' s.toks ⟨es[i],by simp[c],rfl⟩ ⟨k',st.2.at fun o e=>sb.extBut _ _ hne e⟩ fun b o hb e=>sb.extBut b o (fun z=>hb (by simp[z])) e) fun h' c _=>absurd hi (by omega)
 done:=fun s Q E st hQ=>step (fun _=>hh) st.1 st.2 (fun c=>absurd c (Nat.lt_irrefl _)) fun h' c eb=>hQ h' s.toks fun b o hb e=>eb b o (fun z=>hb (by simp[z])) e
 self:=fun _ _ _ _ st hQ=>wpAny_pyIter_keyiter st.1 hQ
theorem src (lo:(d == sysModules)=false):PySem.W.KdlSrc prog w "dict" d d es.size (fun i v=>∃ e,es[i]?=some e/\v=e.key) (fun h=>Raw h d es ep) where
 type:=fun _ hm=>hm.type
 there:=fun _ hm=>let ⟨_,ho,_⟩:=hm;⟨Heap.lt_size ho,Heap.lt_size ho⟩
 keep:=fun _ _ hm hk=>hm.at fun o e=>hk d (.inl rfl) o e
 notList:=by decide
 notTuple:=by decide
 hint:=fun _ _ _ _ hm hq=>PySem.W.kdl_hint_dict hm.type hq
 iter:=fun _ s hh hm=>⟨_,_,(fun _ _ hq=>iter lo hm hq),walks hh _ d (let ⟨_,ho,_⟩:=hm;Nat.ne_of_lt (Heap.lt_size ho)) es ep,⟨⟨_,Heap.get?_push_size _ rfl,rfl,rfl⟩,hm.at fun o e=>Heap.get?_push_of_some _ e⟩⟩
end
end Dk
namespace L2
open PySem PySem.Spec PyProof.Rows
theorem Y5b {X:Cx}(hc:X.calm=true):CallR X (.type "list") (fun xs H Q=>∃ (p:Addr) (kvs:List (List Key × V)),xs=[.ref p]/\H p=some (.dT kvs) ∧
  ∀ (l:Addr) (bs:List Addr),H l=none->Paired (fun b (kv:List Key × V)=>H b=some (.tup (kv.1.map kV))) bs kvs->Q (.ref l) (upd H l (.lst (bs.map V.ref)))):=by
 intro pins s σ H xs us Q I r h
 obtain⟨p,kvs,rfl,hp,q⟩:=h
 obtain⟨u,rfl,rx⟩:=vals1 r
 cases rx
 obtain⟨z,lo,ks,rel,o,es,ep,ho,he,hd,hes,nd⟩:kvs.length<=sizeLine/\(p == sysModules)=false/\∃ xs:List (List Key × Addr × Value),
   Paired (fun (p:List Key × V) (q:List Key × Addr × Value)=>p.1=q.1/\H q.2.1=some (.tup (p.1.map kV))/\RelV p.2 q.2.2) kvs xs ∧
   ∃ o es ep,s.heap.get? p=some o/\o.ExactDict/\o.data=.dict es ep/\es.toList=xs.map (entryOfKey (tupleKind (Z1v X.prog X.w)))/\(xs.map fun x:List Key × Addr × Value=>x.1).Nodup:=I.hok p _ hp
 have hl:kvs.length=ks.length:=Paired.length rel
 have hsz:es.size=ks.length:=by rw[<-Array.length_toList,hes,List.length_map]
 refine PySem.W.kdl_call (Dk.src (es:=es) (ep:=ep) lo) (I.ok.hd hc) ⟨o,ho,he,hd⟩ (by omega) fun h' tk acc c hk hS hI=>?_
 have vals:∀ (ks:List (List Key × Addr × Value)) (us:List Value),us.length=ks.length->(∀ (j:Nat) (u:Value),us[j]?=some u->∃ k,ks[j]?=some k/\u=Value.ref k.2.1)->Vals ((ks.map fun k=>k.2.1).map V.ref) us:=by
  intro ks
  induction ks with
  | nil=>intro us e _;cases us with
   | nil=>exact .nil
   | cons=>cases e
  | cons k ks ih=>intro us e h;cases us with
   | nil=>cases e
   | cons u us =>
    obtain⟨k',e1,e2⟩:=h 0 u rfl
    cases e1
    exact .cons e2 (ih us (Nat.succ.inj e) fun j u hu=>h (j+1) u hu)
 have hal:acc.toList.length=ks.length:=by rw[Array.length_toList,hI.1,hsz]
 have hv:=vals ks acc.toList hal fun j u hu=>by
  obtain⟨e,e1,e2⟩:=hI.2 j u (by rw[<-Array.getElem?_toList];exact hu)
  rw[<-Array.getElem?_toList,hes,List.getElem?_map] at e1
  obtain⟨k,k1,k2⟩:=Option.map_eq_some_iff.mp e1
  exact⟨k,k1,by rw[e2,<-k2];rfl⟩
 have hto:(acc.toList).toArray=acc:=Array.toArray_toList
 refine⟨.ref s.heap.objs.size,_,I.laid (t':=tk) hk (Nat.le_refl _) (show ObjOk X.prog X.w _ _ _ (.lst ((ks.map fun k=>k.2.1).map V.ref)) from ⟨by rw[List.length_map,List.length_map];omega,acc.toList,c,hv,by rw[hto];exact hS⟩),rfl,q _ _ (I.hok.fresh (Nat.le_refl _)) ?_⟩
 clear hv hal hes hsz hl nd q vals hp z
 induction rel with
 | nil=>exact .nil
 | cons a _ ih=>exact .cons a.2.1 ih
end L2
namespace L2
open PySem PySem.Spec PyProof.Rows
def tDispT (tk tv:TE):TE:=fun σ H Q=>∀ p,H p=none->tPairs [(tk,tv)] σ (upd H p (.dT [])) fun ps H2=>H2 p=some (.dT [])/\∃ (b:Addr) (k:List Key) (y:V),ps=[(.ref b,y)]/\H2 b=some (.tup (k.map kV))/\Q (.ref p) (upd H2 p (.dT [(k,y)]))
theorem Y9w {X:Cx}{pos:Pos}{k v:Expr}{tk tv:TE}(hu:X.A.units+1<cLine)(hk:PE X k tk)(hv:PE X v tv):PE X (.Dict [some k] [v] pos) (tDispT tk tv):=by
 intro pins s σ H Q I q
 have hn:=I.hok.fresh (Nat.le_refl s.heap.objs.size)
 have I1:=I.laid (a:=s.heap.objs.size) (o:=.dT []) (h':=s.heap.push { cls:=.type "dict",data:=.dict #[] }) (t':=s.toks) (fun _ _ q=>Heap.get?_push_of_some _ q) (Nat.le_refl _) (X1k s.heap I.big)
 have ev:PPs X pos [some k] [v] [(tk,tv)]:=Y9r hk hv X3o
 refine wpAny_Dict_any rfl rfl (by simp) (by show 1<=15;decide) (thn (ev pins _ σ _ _ I1 (q _ hn)) fun ws s2 ⟨ps,H2,I2,rel,e,b,kk,y,eps,eb,q2⟩=>?_)
 ·subst eps
  cases rel with
  | @cons _ w1 _ _ h1 t1 =>
   cases t1
   obtain⟨u1,u2⟩:=w1
   cases (show u1=Value.ref b from h1.1)
   obtain⟨z,hd,xs,rl,dd⟩:=X7x I2.hok e
   cases rl
   unfold storeAll
   rw[List.forIn_cons];simp only[List.forIn_nil]
   refine wpAny_bind (wpAny_bind (wpAny_dictSet_heap (knd:=tupleKind (Z1v X.prog X.w)) (show X.A.units<cLine from Nat.lt_of_succ_lt hu) (Z7s I2.hok eb) dd (fun h' dd' hs=>wpAny_pure (wpAny_pure ?_)) (Nat.zero_le _)))
   obtain⟨o,es,ep,hq,h2,h3,h4,_,h5⟩:=dd'
   refine⟨.ref s.heap.objs.size,_,Y1s (ob:=.dT [(kk,y)]) I2 (by rw[e];exact True.intro) hs ⟨o,hq⟩ ⟨(by show 1<=sizeLine;decide),hd,_,?_,o,es,ep,hq,h2,h3,h4,h5⟩,rfl,q2⟩
   refine .cons ⟨rfl,?_,h1.2⟩ .nil
   show upd H2 s.heap.objs.size _ b=_
   rw[Z0x (Z5o eb e (fun z=>nomatch z))]
   exact eb
end L2
namespace L2
open PySem PySem.Spec PyProof.Rows
def Ite (K:PySem.W.Frag)(l:Addr):It :=
 ⟨fun i H=>∃ xs x,SqL K H l xs/\xs[i]?=some x,
 fun i H v H'=>∃ T x,v=.ref T/\H T=none/\H'=upd H T (.tup [.int i,x])/\∀ xs,SqL K H l xs->xs[i]?=some x,
 fun i H=>∃ xs,SqL K H l xs/\xs.length<=i⟩
theorem Y5h {P:Program}{w:World}{K:PySem.W.Frag}{es:List Expr}{kk:Nat}{tp:Pos}{e it l:Addr}(ne:e≠it)(nl:l≠e) :
  Turn P w K (.Tuple es kk tp) (Ite K l) [e,it] e (fun i h=>(∃ old,IsEnum h e it i old)/\h.IsListIter it l i) where
 mem:=by simp
 obj:=fun i h st b hb=>by
  obtain⟨⟨old,a1⟩,o,a2,_,a3⟩:=st
  simp only[List.mem_cons,List.not_mem_nil,or_false] at hb
  rcases hb with rfl | rfl
  ·exact⟨_,a1,fun v q=>by have q':Data.fields _=Data.cell v:=q;cases q'⟩
  ·exact⟨o,a2,fun v z=>by rw[a3] at z;cases z⟩
 keep:=fun i h h' st k=>by
  obtain⟨⟨old,a1⟩,a2⟩:=st
  exact⟨⟨old,k e (by simp) _ a1⟩,a2.at fun o q=>k it (by simp) o q⟩
 item:=by
  intro X hP hw hK hc i pins s σ H E I hf st hg
  subst hP hw hK
  obtain⟨xs,x,q1,hx⟩:=hg
  obtain⟨⟨old,a1⟩,a2⟩:=st
  obtain⟨its,rv,p,hz⟩:=I.list q1
  obtain⟨vx,hvx,rx⟩:=rv.get hx
  refine wpAny_pyNext_enum_item a1 a2 p.isList (x:=vx) (by simpa using hvx) ne fun h' b1 b2 b3 b4 b5=>?_
  refine⟨_,rfl,wpAny_letOwnedTupleGo_enum b1 fun h2 c1 sb=>?_⟩
  have zT:s.heap.objs.size≠e:=Nat.ne_of_gt (Heap.lt_size a1)
  have k2:∀ b o,b ∉ [e,it]->s.heap.get? b=some o->h2.get? b=some o:=fun b o hb q=>by
   simp only[List.mem_cons,List.not_mem_nil,or_false,not_or] at hb
   exact sb.extBut b o hb.1 (b5 b o hb.1 hb.2 q)
  have hT:IsTup h2 s.heap.objs.size ([.int i s.toks,vx]:List Value).toArray:=⟨_,sb.extBut _ _ zT b3,rfl,_,rfl⟩
  refine⟨.ref s.heap.objs.size,upd H s.heap.objs.size (.tup [.int i,x]),I.turnedT (t':=s.toks+1) k2 hf (Nat.le_refl _) (.cons ⟨_,rfl⟩ (.cons rx .nil)) (by show 2<=sizeLine;decide) hT,rfl,⟨_,x,rfl,I.hok.fresh (Nat.le_refl _),rfl,fun xs' h1=>?_⟩,⟨⟨vx,?_⟩,?_⟩,fun b hb=>?_⟩
  ·rw[I.list_inj h1 q1];exact hx
  ·exact_mod_cast c1
  ·exact b2.at fun o q=>sb.extBut _ _ ne.symm q
  ·have hlt:b<s.heap.objs.size:=by
    simp only[List.mem_cons,List.not_mem_nil,or_false] at hb
    rcases hb with rfl | rfl
    ·exact Heap.lt_size a1
    ·obtain⟨o,q,_⟩:=a2;exact Heap.lt_size q
   rw[Z0x (Nat.ne_of_lt hlt)]
   exact(hf b hb).1
 done:=by
  intro X hP hw hK hc i pins s σ H E I hf st hg
  subst hP hw hK
  obtain⟨xs,q1,hend⟩:=hg
  obtain⟨⟨old,a1⟩,a2⟩:=st
  obtain⟨its,rv,p,hz⟩:=I.list q1
  have e1:=rv.length
  refine wpAny_pyNext_enum_end (I.ok.hd hc) a1 a2 p.isList (by simp;omega) fun h' eb=>⟨rfl,I.turnedL (t':=s.toks) (ch:=[e,it]) (fun b o hb q=>?_) hf⟩
  simp only[List.mem_cons,List.not_mem_nil,or_false,not_or] at hb
  exact eb b o hb.2 q
 self:=fun _ _ _ _ _ st h=>by
  obtain⟨⟨old,a1⟩,_⟩:=st
  exact wpAny_pyIter_enum a1 h
section
variable {X:Cx}{es:List Expr}{kk:Nat}{tp:Pos}
def iEnum (K:PySem.W.Frag)(ta:TA):TI:=fun σ H R=>ta σ H fun vs H1=>∃ l xs,vs=[.ref l]/\SqL K H1 l xs/\R (Ite K l) H1
theorem Z5m {a:Expr}{ta:TA}{p pos:Pos}(hg:Gl X "enumerate")(hm:X.mg "enumerate"=none)(ha:PA X [a] ta)(hs:starEach [a] X.env=[(false,eval a X.env)]:=by rfl) :
  PI X (.Tuple es kk tp) (.Call (.Name "enumerate" p) [a] [] pos) (iEnum X.K ta):=by
 intro pins s σ H R I h
 refine Call_ (Z6x I hg hm boot_enumerate (PyProof.Rows.callWith_type1 (thn (ha pos pins s σ H _ I h) fun us s1 ⟨vs,H1,I1,r1,q1⟩=>?_) (by rw[hs];rfl) (by rfl)))
 obtain⟨l,xs,e,h1,q⟩:=q1
 subst e
 cases r1 with
 | cons r rr =>
  cases rr
  cases r
  obtain⟨its,rv,pl,hz⟩:=I1.list h1
  refine call_enumerate_list pl.isList fun h' z1 z2 z3 zk=>?_
  have I2:Inv X pins σ H1 { s1 with heap:=h' }:=I1.kept (t':=s1.toks) zk
  have lt1:l<s1.heap.objs.size:=by obtain⟨o,q,_⟩:=pl.isList;exact Heap.lt_size q
  refine wpAny_pyIter_enum z1 ⟨_,[s1.heap.objs.size+1,s1.heap.objs.size],_,_,H1,rfl,I2,Y5h (Nat.succ_ne_self _) (Nat.ne_of_lt (Nat.lt_succ_of_lt lt1)),⟨⟨_,z1⟩,z2⟩,fun b hb=>?_,q⟩
  have hge:s1.heap.objs.size<=b:=by
   simp only[List.mem_cons,List.not_mem_nil,or_false] at hb
   rcases hb with rfl | rfl
   ·exact Nat.le_succ _
   ·exact Nat.le_refl _
  exact I1.fpOk hge (I1.hok.fresh hge)
end
theorem Y3w {K:PySem.W.Frag}{a:Addr}{xs:List V}{g:TG}{tb:TS}{D:Ends}{σ:St}{H:Hp}(Pv:Nat->St->Hp->Prop)(h0:Pv 0 σ H)(hl:∀ i σ H,i<=xs.length->Pv i σ H->SqL K H a xs)
  (hs:∀ i x σ H T,xs[i]?=some x->Pv i σ H->H T=none->g (.ref T) σ (upd H T (.tup [.int i,x])) fun σ2 H2=>tb { D with nx:=Pv (i+1),ct:=Pv (i+1),bk:=D.nx } σ2 H2) (hd:∀ σ H,Pv xs.length σ H->D.nx σ H) :
  ∃ W:Nat->Nat->St->Hp->Prop,(∃ m,W 0 m σ H)/\∀ i m σ H,W i m σ H →
   ((Ite K a).stop i H/\D.nx σ H)∨((Ite K a).go i H/\∃ N:St->Hp->Prop,(∀ σ' H',N σ' H'->∃ m',m'<m/\W (i+1) m' σ' H')/\∀ x H',(Ite K a).yld i H x H'->g x σ H' fun σ2 H2=>tb { D with nx:=N,ct:=N,bk:=D.nx } σ2 H2):=by
 refine⟨fun i m σ H=>m=xs.length-i/\i<=xs.length/\Pv i σ H,⟨xs.length,by simp,Nat.zero_le _,h0⟩,?_⟩
 rintro i m σ H ⟨rfl,hi,p⟩
 have q:=hl i σ H hi p
 by_cases hlt:i<xs.length
 ·refine .inr ⟨⟨xs,xs[i],q,by simp[hlt]⟩,Pv (i+1),fun σ' H' p'=>⟨xs.length-(i+1),by omega,rfl,hlt,p'⟩,fun v H' y=>?_⟩
  obtain⟨T,x,rfl,hT,rfl,y⟩:=y
  exact hs i x σ H T (y xs q) p hT
 ·have e:i=xs.length:=by omega
  subst e
  exact .inl ⟨⟨xs,q,Nat.le_refl _⟩,hd σ H p⟩
end L2
namespace L2
open PySem PySem.Spec PyProof.Rows
theorem Z7d {X:Cx}(hc:X.calm=true):CallR X (.builtin "sum") (fun xs H Q=>∃ (p:Addr) (ns:List Int),xs=[.ref p]/\SqL X.K H p (ns.map V.int)/\Q (.int ns.sum) H):=by
 intro pins s σ H xs us Q I r h
 obtain⟨p,ns,rfl,hq,q⟩:=h
 obtain⟨u,rfl,ru⟩:=r.one
 cases ru
 obtain⟨its,rv,pl,hz⟩:=I.list hq
 have hi:=Z1w rv
 have hl:=pl.isList
 have hs:=hi.numsOf
 obtain⟨xs,e⟩:=hi.allInts.items
 have e2:its=(intItems xs).toList:=by rw[<-e]
 rw[e] at hl
 rw[e2,nums_intItems] at hs
 refine sum_intListG (show X.A.handled=none from I.ok.hd hc) hl fun h' tk t' hk=>?_
 rw[preSum_eq,List.take_of_length_le (by simp),hs]
 exact⟨.int ns.sum,H,I.kept (t':=tk) hk,⟨_,rfl⟩,q⟩
theorem X5c {K:PySem.W.Frag}{l:Addr}{g:TG}{xs:List V}{te:TE}{fr:St}{H1:Hp}{acc:Addr}{Q:VK}(f:Nat->V->V)(hn:xs.length<=sizeLine)(hacc:H1 acc=none)(hl:SqL K H1 l xs)
  (hg:∀ {a:Addr}{x y:V}{w1 w2:Option V}{H:Hp}{Q:St->Hp->Prop},H a=some (.tup [x,y])->Q (some x::some y::fr) H->g (.ref a) (w1::w2::fr) H Q)
  (hs:∀ i x H (N:V->Hp->Prop),xs[i]?=some x->Same H1 H->N (f i x) H->te (some (.int i)::some x::fr) H N)
  (hd:∀ H2,Same H1 H2->H2 acc=some (.lst (xs.mapIdx f))->Q (.ref acc) H2):LcW (Ite K l) g te (none::none::fr) H1 acc Q:=by
 refine⟨fun i m zs σ2 H2=>m=xs.length-i/\i<=xs.length/\(∃ v w,σ2=v::w::fr)/\Same H1 H2/\H2 acc=some (.lst zs)/\zs=(xs.take i).mapIdx f,⟨xs.length,by simp,Nat.zero_le _,⟨_,_,rfl⟩,Z0f hacc _,Z0c,by simp⟩,?_⟩
 rintro i m zs σ2 H2 ⟨rfl,hi,⟨v,w,rfl⟩,s2,a2,e2⟩
 by_cases hlt:i<xs.length
 ·have e1:xs[i]?=some xs[i]:=by simp[hlt]
  refine .inr ⟨⟨xs,_,s2.seq hl,e1⟩,fun u H3 y3=>?_⟩
  obtain⟨T,x,rfl,hT,rfl,h1⟩:=y3
  have hx:=h1 xs (s2.seq hl)
  have sT:=Z0f hT (.tup [.int i,x])
  have zl:zs.length=i:=by rw[e2,List.length_mapIdx,List.length_take];omega
  refine hg (x:=.int i) (y:=x) Z0c (hs i x _ _ hx (s2.trans sT) ⟨sT _ _ a2,by omega,xs.length-(i+1),by omega,rfl,hlt,⟨_,_,rfl⟩,Z0s (s2.trans sT) hacc,Z0c,?_⟩)
  rw[List.take_add_one,hx,Option.toList_some,List.mapIdx_append,e2]
  have:(xs.take i).length=i:=by rw[List.length_take];omega
  simp[this]
 ·have e:i=xs.length:=by omega
  subst e
  exact .inl ⟨⟨xs,s2.seq hl,Nat.le_refl _⟩,hd H2 s2 (by rw[a2,e2,List.take_length])⟩
theorem Z8o {K:PySem.W.Frag}{l:Addr}{ns:List Int}{tc:TT}{te:TE}{fr:St}{H1:Hp}{acc:Addr}{Q:VK}(p:Int->Bool)(f:Int->Int)(hn:ns.length<=sizeLine)(hacc:H1 acc=none)(hl:SqL K H1 l (ns.map V.int))
  (hs:∀ n H (N:Bool->Hp->Prop),n∈ns->Same H1 H->N (p n) H->tc (some (.int n)::fr) H N)
  (ht:∀ n H (N:V->Hp->Prop),n∈ns->p n=true->Same H1 H->N (.int (f n)) H->te (some (.int n)::fr) H N)
  (hd:∀ H2,Same H1 H2->H2 acc=some (.lst (((ns.filter p).map f).map V.int))->Q (.ref acc) H2):LcWF (Itl K l) (gName 0) tc te (none::fr) H1 acc Q:=by
 refine⟨fun i m zs σ2 H2=>m=ns.length-i/\i<=ns.length/\(∃ v,σ2=v::fr)/\Same H1 H2/\H2 acc=some (.lst zs)/\zs=(((ns.take i).filter p).map f).map V.int,⟨ns.length,by simp,Nat.zero_le _,⟨_,rfl⟩,Z0f hacc _,Z0c,by simp⟩,?_⟩
 rintro i m zs σ2 H2 ⟨rfl,hi,⟨v,rfl⟩,s2,a2,e2⟩
 by_cases hlt:i<ns.length
 ·have e1:ns[i]?=some ns[i]:=by simp[hlt]
  have e3:(ns.map V.int)[i]?=some (.int ns[i]):=by rw[List.getElem?_map,e1];rfl
  have zl:zs.length<=i:=by
   rw[e2,List.length_map,List.length_map]
   exact Nat.le_trans (List.length_filter_le _ _) (by rw[List.length_take];omega)
  have mem:ns[i]∈ns:=List.getElem_mem hlt
  refine .inr ⟨⟨_,_,s2.seq hl,e3⟩,fun u H3 y3=>?_⟩
  obtain⟨rfl,y4⟩:=y3
  have:=y4 _ (s2.seq hl)
  rw[e3] at this
  cases this
  refine hs ns[i] _ _ mem s2 ⟨fun hp=>ht ns[i] _ _ mem hp s2 ⟨a2,by omega,ns.length-(i+1),by omega,rfl,hlt,⟨_,rfl⟩,Z0s s2 hacc,Z0c,?_⟩,fun hp=>⟨ns.length-(i+1),by omega,rfl,hlt,⟨_,rfl⟩,s2,a2,?_⟩⟩
  ·rw[List.take_add_one,e1,Option.toList_some,List.filter_append,List.map_append,List.map_append,e2]
   simp[hp]
  ·rw[List.take_add_one,e1,Option.toList_some,List.filter_append,List.map_append,List.map_append,e2]
   simp[hp]
 ·have e:i=ns.length:=by omega
  subst e
  exact .inl ⟨⟨_,s2.seq hl,by rw[List.length_map];exact Nat.le_refl _⟩,hd H2 s2 (by rw[a2,e2,List.take_length])⟩
end L2
namespace K62
open PySem PySem.Spec PyProof.Rows L2 Am Pc Ba
theorem or_i (x y:Nat):Builtin.bitOr (x:Int) (y:Int)=((x ||| y:Nat):Int):=by
 have h:Builtin.bitXor (x:Int) (y:Int)=Builtin.bitOr x y-Builtin.bitAnd x y:=rfl
 rw[Z4p,Z5s] at h
 have e:=Y6o (x+y+1) x y (by omega) (by omega)
 omega
theorem X0z {K:PySem.W.Frag}{l:Addr}{g:TG}{xs:List V}{te:TE}{fr:L2.St}{H1:Hp}{acc:Addr}{Q:VK}(Pv:Nat->List V->Hp->Prop)(hn:xs.length<=sizeLine)(h0:Pv 0 [] (upd H1 acc (.lst [])))
  (hl:∀ i ys H,Pv i ys H->SqL K H l xs)
  (hg:∀ {a:Addr}{x y:V}{w1 w2:Option V}{H:Hp}{Q:L2.St->Hp->Prop},H a=some (.tup [x,y])->Q (some x::some y::fr) H->g (.ref a) (w1::w2::fr) H Q)
  (hs:∀ i x ys H (T:Addr) (N:V->Hp->Prop),xs[i]?=some x->ys.length=i->Pv i ys H->H T=none->(∀ y H5,H5 acc=some (.lst ys)->Pv (i+1) (ys++[y]) (upd H5 acc (.lst (ys++[y])))->N y H5)->te (some (.int i)::some x::fr) (upd H T (.tup [.int i,x])) N)
  (hd:∀ ys H,ys.length=xs.length->Pv xs.length ys H->Q (.ref acc) H):LcW (Ite K l) g te (none::none::fr) H1 acc Q:=by
 refine⟨fun i m zs σ2 H2=>m=xs.length-i/\i<=xs.length/\zs.length=i/\(∃ v w,σ2=v::w::fr)/\Pv i zs H2,⟨xs.length,by simp,Nat.zero_le _,rfl,⟨_,_,rfl⟩,h0⟩,?_⟩
 rintro i m zs σ2 H2 ⟨rfl,hi,zl,⟨v,w,rfl⟩,p⟩
 have sl:=hl i zs H2 p
 by_cases hlt:i<xs.length
 ·have e1:xs[i]?=some xs[i]:=by simp[hlt]
  refine .inr ⟨⟨xs,_,sl,e1⟩,fun u H3 y3=>?_⟩
  obtain⟨T,x,rfl,hT,rfl,h1⟩:=y3
  have hx:=h1 xs sl
  refine hg (x:=.int i) (y:=x) Z0c (hs i x zs H2 T _ hx zl p hT fun y H5 a5 p5=>⟨a5,by omega,xs.length-(i+1),by omega,rfl,hlt,by simp[zl],⟨_,_,rfl⟩,p5⟩)
 ·have e:i=xs.length:=by omega
  subst e
  exact .inl ⟨⟨xs,sl,Nat.le_refl _⟩,hd zs H2 zl p⟩
def spExch:Sp:=fun vs H Q _=>∃ w a b:Nat,vs=[.int w,.int ((2^a:Nat):Int),.int ((2^b:Nat):Int)]/\∀ H',Same H H'->Q (.int (exch w a b:Nat)) H'
def Y2y:Sp:=fun vs H Q _=>∃ (w:Nat) (p:Addr) (v:Mv) (c:Nat),vs=[.int w,.ref p]/\H p=some (MvT v.nm v.ns)/\v.Ok c/\c<=6/\v.nm≠"turn"/\v.nm≠"pair"/\∀ H',Same H H'->Q (.int (v.to w:Nat)) H'
structure Bo (K:PySem.W.Frag) (H:Hp) (l:Addr) (ps:List Addr) (f:Nat->A5) (c:Nat):Prop where
 lst:H l=some (.lst (ps.map V.ref))
 len:ps.length=2^c
 vals:ValsK K H ps f
theorem Bo.same {K:PySem.W.Frag}{H H':Hp}{l:Addr}{ps:List Addr}{f:Nat->A5}{c:Nat}(b:Bo K H l ps f c)(s:Same H H'):Bo K H' l ps f c:=⟨s _ _ b.lst,b.len,b.vals.same s⟩
theorem Bo.at {K:PySem.W.Frag}{H:Hp}{l:Addr}{ps:List Addr}{f:Nat->A5}{c i:Nat}(b:Bo K H l ps f c)(hi:i<2^c):∃ p,ps[i]?=some p/\At5 K H p (f i)/\atI (ps.map V.ref) (i:Int)=some (.ref p):=by
 have hl:i<ps.length:=by rw[b.len];exact hi
 refine⟨ps[i],List.getElem?_eq_getElem hl,b.vals i _ (List.getElem?_eq_getElem hl),Z4k (by rw[List.getElem?_map,List.getElem?_eq_getElem hl];rfl)⟩
def Y2n (K:PySem.W.Frag):Sp:=fun vs H Q _=>∃ (l:Addr) (ps:List Addr) (f:Nat->A5) (c bits:Nat) (k:Int),vs=[.ref l,.int bits,.int k]/\Bo K H l ps f c/\c<=6 ∧
 ∀ (r:Addr) (H':Hp) (qs:List Addr) (g:Nat->A5),H r=none->Same H H'->Bo K H' r qs g c->(∀ w,w<2^c->g w=if w&&&bits=bits then spin (f w) k else f w)->Q (.ref r) H'
theorem inV2 (x a b:Int):inV (.int x) [.int a,.int b]=(decide (a=x) || decide (b=x)):=by
 unfold inV
 simp only[List.any_cons,List.any_nil,Bool.or_false,eqV]
 rfl
section
variable {P:Program}{w:World}{K:PySem.W.Frag}{mg:Str->Option Value}{base:Heap}{k:Nat}{h:Heap}
theorem sc_exch:FnScope ["word","bit","other","both"] ["word","bit","other"] (Z0i (top 65)):=fS
theorem X4m (F:FunAt K "exchanged" (top 65) .none)(X:K.In h)(G:h.Ns mainGlobals mg):Cal P w K mg base (k+1) "exchanged" ["word","bit","other"] spExch:=by
 have nd:=sc_exch.nd
 refine F.cal X G sc_exch (bnd3 fun _ _ _ _ _ _ _ _ _=>rfl) (fun vs H Q E h=>?_) (fun f cdv A outer s H vs Q E hr h=>?_)
 ·obtain⟨w,a,b,rfl,_⟩:=h;rfl
 obtain⟨x,a,b,rfl,q⟩:=h
 refine⟨_,(@Z0e _ _ _ _ _ (@Z0r _ _ 3 _ _ _ _ nd rfl (Or.inl rfl) (Z0h Y1f (pv 1) (pv 2)) rfl (.inl rfl))
  (@Z0g _ _ _ (Z0j (Z5a (Z0o Z9v (Z0h Z1t (pv 0) (pv 3)) (@Z0z _ _ _ _ _ (Z0a (pv 1) (Z0a (pv 2) Z0d))) rfl) (Z0h Z3n (pv 0) (pv 3)) (pv 0))))),?_⟩
 try dsimp only[cxK]
 refine⟨_,rfl,_,rfl,_,_,rfl,rfl,?_⟩
 refine⟨_,rfl,_,rfl,_,_,rfl,rfl,_,rfl,_,rfl,t2,fun tp htp=>?_⟩
 refine⟨tp,_,rfl,.inr (SqT.of Z0c),rfl,rfl,_,rfl,?_⟩
 have s1:=Z0f htp (.tup [.int ((2^a:Nat):Int),.int ((2^b:Nat):Int)])
 have q1:=q _ s1
 unfold exch at q1
 show if (inV (.int (Builtin.bitAnd (x:Int) (Builtin.bitOr ((2^a:Nat):Int) ((2^b:Nat):Int)))) [.int ((2^a:Nat):Int),.int ((2^b:Nat):Int)])=true then _ else _
 rw[or_i,Z5s,inV2]
 by_cases c:x&&&(2^a ||| 2^b)=2^a∨x&&&(2^a ||| 2^b)=2^b
 ·rw[if_pos (by rw[Bool.or_eq_true,decide_eq_true_eq,decide_eq_true_eq];omega)]
  rw[if_pos c] at q1
  refine⟨_,rfl,_,rfl,_,_,rfl,rfl,?_⟩
  show Q (.int (Builtin.bitXor (x:Int) (Builtin.bitOr ((2^a:Nat):Int) ((2^b:Nat):Int)))) _
  rw[or_i,Z4p]
  exact q1
 ·rw[if_neg (by rw[Bool.or_eq_true,decide_eq_true_eq,decide_eq_true_eq];omega)]
  rw[if_neg c] at q1
  exact⟨_,rfl,q1⟩
theorem sc_behind:FnScope ["word","move","bits"] ["word","move"] (Z0i (top 64)):=fS
theorem Y7d (F:FunAt K "word_behind" (top 64) .none)(X:K.In h)(G:h.Ns mainGlobals mg)(c_named_cells:Cal P w K mg base k "named_cells" ["move"] Y0y)(c_exchanged:Cal P w K mg base k "exchanged" ["word","bit","other"] spExch) :
  Cal P w K mg base (k+1) "word_behind" ["word","move"] Y2y:=by
 have nd:=sc_behind.nd
 refine F.cal X G sc_behind (bnd2 fun _ _ _ _ _ _ _ _=>rfl) (fun vs H Q E h=>?_) (fun f cdv A outer s H vs Q E hr h=>?_)
 ·obtain⟨w,p,v,c,rfl,_⟩:=h;rfl
 obtain⟨x,p,v,c,rfl,hp,ok,c6,nt,np,q⟩:=h
 have FI:=Mv.fits ok
 have en:named v.nm v.ns=v.ns:=by unfold named;rw[if_neg nt]
 have hlen:v.ns.length<=3:=FI.form.len
 have low:∀ a∈v.ns,0<=a/\a<6:=fun a ha=>by
  have:=FI.low a (by rw[en];exact ha)
  omega
 refine⟨_,(@Z0e _ _ _ _ _ (Z2z (i:=2) rfl nd rfl rfl (LcOk.of (Nc:=["cell"]) (mp:=[none]) (by kernel_rfl)) (Y3c (Z0k c_named_cells hr rfl (Z0a (pv 1) Z0d))) (fun _ _ _ _=>(Z0m (i:=0) (show (["cell"]:List Str).Nodup by decide +kernel) rfl (Or.inl rfl))) (fun _ _ _ _=>(Z0h Z1r Z0b (pv 0))) rfl)
  (@Z0e _ _ _ _ _ (Z0y (Z0o Z1u (Z0n Z0l (pv 1) Z0b (fun _ _=>rfl)) Z2b (nomark _))
   (@Z0g _ _ _ (Z0j (Z0h Z3n (pv 0) (Z0n Z1a (pv 2) Z0b (fun _ _=>rfl)))))
   Z0p)
  (@Z0e _ _ _ _ _ (Z0y (Z0o Z1u (Z0n Z0l (pv 1) Z0b (fun _ _=>rfl)) Z2b (nomark _))
   (@Z0g _ _ _ (Z0j (Z0k c_exchanged hr rfl (Z0a (pv 0) (Z0a (Z0n Z1a (pv 2) Z0b (fun _ _=>rfl)) (Z0a (Z0n Z1a (pv 2) Z0b (fun _ _=>rfl)) Z0d))))))
   Z0p)
  (@Z0e _ _ _ _ _ (Z0y (Z2f (Z8k (Z0h Z1t (pv 0) (Z0n Z1a (pv 2) Z0b (fun _ _=>rfl))) (by intro _;rfl)))
   (@Z0g _ _ _ (Z0j (pv 0)))
   Z0p)
  (@Z0e _ _ _ _ _ (Z0y (Z0o Z1u (Z0n Z0l (pv 1) Z0b (fun _ _=>rfl)) Z2b (nomark _))
   (@Z0g _ _ _ (Z0j (Z0h Z3n (pv 0) (Z0n Z1a (pv 2) Z0b (fun _ _=>rfl)))))
   Z0p)
  (@Z0g _ _ _ (Z0j (Z0k c_exchanged hr rfl (Z0a (pv 0) (Z0a (Z0n Z1a (pv 2) Z0b (fun _ _=>rfl)) (Z0a (Z0n Z1a (pv 2) Z0b (fun _ _=>rfl)) Z0d))))))))))),?_⟩
 try dsimp only[cxK]
 refine⟨_,rfl,p,v.nm,v.ns,rfl,hp,FI.form,fun r H1 S1 hr=>?_⟩
 rw[en] at hr
 refine⟨r,rfl,⟨_,SqT.of hr⟩,fun acc hacc=>?_⟩
 refine Y1o (K:=K) (fun n=>.int (1*2^n.toNat)) (SqT.of hr) (t64 (by omega)) hacc (fun n H2 N hn S2 kN=>⟨_,rfl,_,_,rfl,rfl,⟨1,sz1,(low n hn).1,by have:=(low n hn).2;omega⟩,kN⟩) (fun H3 S3 a3=>?_)
 have S03:=S1.trans S3
 have q3:=q H3 S03
 have SP:SqT K H3 p (.str v.nm::v.ns.map V.int):=SqT.of (S03 _ _ hp)
 have SL:SqL K H3 acc (v.ns.map fun n=>V.int (1*2^n.toNat)):=SqL.of a3
 have ip:∀ a:Nat,(1:Int)*2^((a:Int)).toNat=((2^a:Nat):Int):=fun a=>ipow a
 cases v with
 | flip a =>
  refine⟨_,rfl,p,_,_,.str "flip",rfl,rfl,SP,at0,rfl,_,rfl,decI (fun _=>?_) (fun z=>absurd rfl z)⟩
  refine⟨_,rfl,_,rfl,acc,_,_,.int (1*2^((a:Int)).toNat),rfl,rfl,SL,rfl,_,_,rfl,rfl,?_⟩
  show Q (.int (Builtin.bitXor (x:Int) (1*2^((a:Int)).toNat))) H3
  rw[ip,Z4p]
  exact q3
 | turn a k=>exact absurd rfl nt
 | pair a b=>exact absurd rfl np
 | swap a b =>
  refine⟨_,rfl,p,_,_,.str "swap",rfl,rfl,SP,at0,rfl,_,rfl,decI (fun z=>absurd (V.str.inj z) (by decide +kernel)) (fun _=>?_)⟩
  refine⟨_,rfl,p,_,_,.str "swap",rfl,rfl,SP,at0,rfl,_,rfl,decI (fun _=>?_) (fun z=>absurd rfl z)⟩
  refine⟨_,rfl,_,rfl,acc,_,_,.int (1*2^((a:Int)).toNat),rfl,rfl,SL,rfl,_,rfl,acc,_,_,.int (1*2^((b:Int)).toNat),rfl,rfl,SL,rfl,?_⟩
  exact⟨x,a,b,by show [V.int (x:Int),V.int (1*2^((a:Int)).toNat),V.int (1*2^((b:Int)).toNat)]=_;rw[ip,ip],fun H4 S4=>q H4 (S03.trans S4)⟩
 | iff a b =>
  refine⟨_,rfl,p,_,_,.str "if",rfl,rfl,SP,at0,rfl,_,rfl,decI (fun z=>absurd (V.str.inj z) (by decide +kernel)) (fun _=>?_)⟩
  refine⟨_,rfl,p,_,_,.str "if",rfl,rfl,SP,at0,rfl,_,rfl,decI (fun z=>absurd (V.str.inj z) (by decide +kernel)) (fun _=>?_)⟩
  refine⟨_,rfl,_,rfl,acc,_,_,.int (1*2^((a:Int)).toNat),rfl,rfl,SL,rfl,_,_,rfl,rfl,_,rfl,?_⟩
  rw[ip,Z5s]
  have q4:Q (.int ((if x&&&2^a=0 then x else x^^^2^b:Nat):Int)) H3:=q3
  by_cases e:x&&&2^a=0
  ·rw[if_pos e] at q4
   rw[e]
   exact iteT ⟨_,rfl,q4⟩
  ·rw[if_neg e] at q4
   rw[show ((((x&&&2^a:Nat):Int) != 0)=true) by simpa using e]
   refine iteF ⟨_,rfl,p,_,_,.str "if",rfl,rfl,SP,at0,rfl,_,rfl,decI (fun _=>?_) (fun z=>absurd rfl z)⟩
   refine⟨_,rfl,_,rfl,acc,_,_,.int (1*2^((b:Int)).toNat),rfl,rfl,SL,rfl,_,_,rfl,rfl,?_⟩
   show Q (.int (Builtin.bitXor (x:Int) (1*2^((b:Int)).toNat))) H3
   rw[ip,Z4p]
   exact q4
 | cross a b d =>
  refine⟨_,rfl,p,_,_,.str "cross",rfl,rfl,SP,at0,rfl,_,rfl,decI (fun z=>absurd (V.str.inj z) (by decide +kernel)) (fun _=>?_)⟩
  refine⟨_,rfl,p,_,_,.str "cross",rfl,rfl,SP,at0,rfl,_,rfl,decI (fun z=>absurd (V.str.inj z) (by decide +kernel)) (fun _=>?_)⟩
  refine⟨_,rfl,_,rfl,acc,_,_,.int (1*2^((a:Int)).toNat),rfl,rfl,SL,rfl,_,_,rfl,rfl,_,rfl,?_⟩
  rw[ip,Z5s]
  have q4:∀ H',Same H H'->Q (.int ((if x&&&2^a=0 then x else exch x b d:Nat):Int)) H':=q
  by_cases e:x&&&2^a=0
  ·rw[if_pos e] at q4
   rw[e]
   exact iteT ⟨_,rfl,q4 _ S03⟩
  ·rw[if_neg e] at q4
   rw[show ((((x&&&2^a:Nat):Int) != 0)=true) by simpa using e]
   refine iteF ⟨_,rfl,p,_,_,.str "cross",rfl,rfl,SP,at0,rfl,_,rfl,decI (fun z=>absurd (V.str.inj z) (by decide +kernel)) (fun _=>?_)⟩
   refine⟨_,rfl,_,rfl,acc,_,_,.int (1*2^((b:Int)).toNat),rfl,rfl,SL,rfl,_,rfl,acc,_,_,.int (1*2^((d:Int)).toNat),rfl,rfl,SL,rfl,?_⟩
   exact⟨x,b,d,by show [V.int (x:Int),V.int (1*2^((b:Int)).toNat),V.int (1*2^((d:Int)).toNat)]=_;rw[ip,ip],fun H4 S4=>q4 H4 (S03.trans S4)⟩
theorem X4r (v:Mv):v.nm≠"mix":=by
 cases v with
 | flip a=>exact(show ("flip":Str)≠"mix" by decide +kernel)
 | turn a k=>exact(show ("turn":Str)≠"mix" by decide +kernel)
 | iff a b=>exact(show ("if":Str)≠"mix" by decide +kernel)
 | pair a b=>exact(show ("pair":Str)≠"mix" by decide +kernel)
 | swap a b=>exact(show ("swap":Str)≠"mix" by decide +kernel)
 | cross a b d=>exact(show ("cross":Str)≠"mix" by decide +kernel)
theorem X4s {v:Mv}(h:v.nm="turn"):∃ a k,v=.turn a k:=by
 cases v with
 | flip a=>exact absurd h (show ("flip":Str)≠"turn" by decide +kernel)
 | turn a k=>exact⟨a,k,rfl⟩
 | iff a b=>exact absurd h (show ("if":Str)≠"turn" by decide +kernel)
 | pair a b=>exact absurd h (show ("pair":Str)≠"turn" by decide +kernel)
 | swap a b=>exact absurd h (show ("swap":Str)≠"turn" by decide +kernel)
 | cross a b d=>exact absurd h (show ("cross":Str)≠"turn" by decide +kernel)
theorem X4t {v:Mv}(h:v.nm="pair"):∃ a b,v=.pair a b:=by
 cases v with
 | flip a=>exact absurd h (show ("flip":Str)≠"pair" by decide +kernel)
 | turn a k=>exact absurd h (show ("turn":Str)≠"pair" by decide +kernel)
 | iff a b=>exact absurd h (show ("if":Str)≠"pair" by decide +kernel)
 | pair a b=>exact⟨a,b,rfl⟩
 | swap a b=>exact absurd h (show ("swap":Str)≠"pair" by decide +kernel)
 | cross a b d=>exact absurd h (show ("cross":Str)≠"pair" by decide +kernel)
theorem X3g {v:Mv}(h:v.nm≠"turn")(h':v.nm≠"pair")(w:Nat):v.sp w=0:=by
 cases v with
 | turn a k=>exact absurd rfl h
 | pair a b=>exact absurd rfl h'
 | flip a=>rfl
 | iff a b=>rfl
 | swap a b=>rfl
 | cross a b d=>rfl
theorem sc_where:FnScope ["board","bits","k"] ["board","bits","k"] (Z0i (top 63)):=fS
theorem X0b (F:FunAt K "spun_where" (top 63) .none)(X:K.In h)(G:h.Ns mainGlobals mg)(B:Bs mg)(c_spun:Cal P w K mg base k "spun" ["one","k"] (Z8d K)):Cal P w K mg base (k+1) "spun_where" ["board","bits","k"] (Y2n K):=by
 have nd:=sc_where.nd
 refine F.cal X G sc_where (bnd3 fun _ _ _ _ _ _ _ _ _=>rfl) (fun vs H Q E h=>?_) (fun f cdv A outer s H vs Q E hr h=>?_)
 ·obtain⟨l,ps,f,c,bits,k,rfl,_⟩:=h;rfl
 obtain⟨l,ps,g,c,bits,kk,rfl,BO,c6,kq⟩:=h
 have p6:=pow6 c6
 have SL:SqL K H l (ps.map V.ref):=SqL.of BO.lst
 have lps:(ps.map V.ref).length=2^c:=by rw[List.length_map,BO.len]
 refine⟨_,(@Z0g _ _ _ (Z0j (Z3k rfl (LcOk.of (Nc:=["word","one","bits","k"]) (mp:=[none,none,some 1,some 2]) (by kernel_rfl)) (Z5m rfl B.enumerate (Z0a (pv 0) Z0d)) (fun _ _ _ _=>(Z6b rfl (show (["word","one","bits","k"]:List Str).Nodup by decide +kernel) rfl rfl rfl rfl)) (fun _ _ _ _=>(Z5a (Z0o Z1u (Z0h Z1t (pv 0) (pv 2)) (pv 2) (nomark _)) (Z0k c_spun hr rfl (Z0a (pv 1) (Z0a (pv 3) Z0d))) (pv 1)))))),?_⟩
 try dsimp only[cxK]
 refine⟨_,rfl,l,_,rfl,SL,fun acc hacc=>?_⟩
 refine X0z (K:=K) (l:=l) (xs:=ps.map V.ref) (fr:=[some (.int bits),some (.int kk)]) (fun i ys H'=>∃ (qs:List Addr) (y:Nat->A5),Same H H'/\H' acc=some (.lst ys)/\ys=qs.map V.ref/\qs.length=i/\ValsK K H' qs y/\∀ j,j<i->y j=if j&&&bits=bits then spin (g j) kk else g j) (by rw[lps];exact t64 p6)
  ⟨[],fun _=>((0,0,0,0),0),Z0f hacc _,Z0c,rfl,rfl,(fun _ _ z=>by cases z),fun j hj=>absurd hj (Nat.not_lt_zero _)⟩ (fun i ys H' p=>by obtain⟨qs,y,s2,_⟩:=p;exact SqL.of (s2 _ _ BO.lst)) (fun h q=>⟨_,_,rfl,SqT.of h,rfl,_,_,rfl,_,_,rfl,rfl,q⟩) ?_ ?_
 ·rintro i x ys H2 T N hx hy ⟨qs,y,S2,a2,rfl,ql,v2,ok2⟩ hT kN
  rw[List.getElem?_map] at hx
  obtain⟨p,hp,rfl⟩:=Option.map_eq_some_iff.mp hx
  have pg:=(BO.vals i p hp).same S2
  have sT:=Z0f hT (.tup [.int i,.ref p])
  have fin:∀ (r:Addr) (H5:Hp) (z:A5),Same (upd H2 T (.tup [.int i,.ref p])) H5->At5 K H5 r z->z=(if i&&&bits=bits then spin (g i) kk else g i)->N (.ref r) H5:=fun r H5 z S5 hr hz=>by
   have S25:=sT.trans S5
   refine kN (.ref r) H5 (S25 _ _ a2) ⟨qs++[r],fun j=>if j=qs.length then z else y j,Z0s (S2.trans S25) hacc,Z0c,by rw[List.map_append];rfl,by simp[ql],Z2t (xs:=qs.map V.ref) (Z3c v2 S25 hr) (S25 _ _ a2),fun j hj=>?_⟩
   show (if j=qs.length then z else y j)=_
   by_cases e:j=qs.length
   ·rw[if_pos e,hz,e,ql]
   ·rw[if_neg e]
    exact ok2 j (by omega)
  refine⟨_,rfl,_,rfl,_,_,rfl,rfl,_,rfl,rfl,_,rfl,?_⟩
  show if decide (V.int (Builtin.bitAnd (i:Int) (bits:Int))=V.int (bits:Int))=true then _ else _
  rw[Z5s]
  by_cases e:i&&&bits=bits
  ·rw[decide_eq_true (by rw[e])]
   refine iteT ⟨_,rfl,_,rfl,p,_,_,_,_,_,_,rfl,pg.same sT,fun r H5 S5 hr=>fin r H5 (spin (g i) kk) S5 hr (by rw[if_pos e])⟩
  ·rw[decide_eq_false (fun z=>e (by have:=V.int.inj z;omega))]
   exact iteF ⟨_,rfl,fin p _ (g i) (Same.refl _) (pg.same sT) (by rw[if_neg e])⟩
 ·rintro ys H2 hy ⟨qs,y,S2,a2,rfl,ql,v2,ok2⟩
  rw[lps] at ql ok2
  exact kq acc H2 qs y hacc S2 ⟨a2,ql,v2⟩ ok2
def wOk (c a w:Nat):Bool:=decide (w&&&2^a=0) == decide (w / 2^a%2=0) && if w / 2^a%2=0 then decide ((w ||| 2^a)=w+2^a) && decide (w+2^a<2^c) && decide ((w+2^a) / 2^a%2=1) else decide ((w^^^2^a)=w-2^a) && decide (2^a<=w) && decide ((w-2^a) / 2^a%2=0)
theorem X2y:((List.range 7).all fun c=>(List.range c).all fun a=>(List.range (2^c)).all fun w=>wOk c a w)=true:=by decide +kernel
theorem wok {c a w:Nat}(hc:c<=6)(ha:a<c)(hw:w<2^c):wOk c a w=true :=
 List.all_eq_true.mp (List.all_eq_true.mp (List.all_eq_true.mp X2y c (List.mem_range.mpr (by omega))) a (List.mem_range.mpr ha)) w (List.mem_range.mpr hw)
theorem X6l {c a w:Nat}(hc:c<=6)(ha:a<c)(hw:w<2^c)(h:w / 2^a%2=0):w&&&2^a=0/\(w ||| 2^a)=w+2^a/\w+2^a<2^c/\(w+2^a) / 2^a%2=1:=by
 have:=wok hc ha hw
 unfold wOk at this
 rw[if_pos h,decide_eq_true h] at this
 simpa [and_assoc] using this
theorem X2a {c a w:Nat}(hc:c<=6)(ha:a<c)(hw:w<2^c)(h:¬ w / 2^a%2=0):w&&&2^a≠0/\(w^^^2^a)=w-2^a/\2^a<=w/\(w-2^a) / 2^a%2=0:=by
 have:=wok hc ha hw
 unfold wOk at this
 rw[if_neg h,decide_eq_false h] at this
 simpa [and_assoc] using this
structure Mix (s:Int) (x y z:A5):Prop where
 ex:∃ p:A5,Sum x.1.1 x.1.2.1 x.1.2.2.1 x.1.2.2.2 x.2 (s*y.1.1) (s*y.1.2.1) (s*y.1.2.2.1) (s*y.1.2.2.2) y.2 p.1.1 p.1.2.1 p.1.2.2.1 p.1.2.2.2 p.2 ∧
  Amt z.1.1 z.1.2.1 z.1.2.2.1 z.1.2.2.2 z.2/\Same4 (p.1.2.1-p.1.2.2.2) (p.1.1+p.1.2.2.1) (p.1.2.1+p.1.2.2.2) (p.1.2.2.1-p.1.1) (p.2+1) z.1.1 z.1.2.1 z.1.2.2.1 z.1.2.2.2 z.2
theorem X2v {x y:A5}(h:x.1.1=y.1.1/\x.1.2.1=y.1.2.1/\x.1.2.2.1=y.1.2.2.1/\x.1.2.2.2=y.1.2.2.2/\x.2=y.2):x=y:=by
 obtain⟨⟨a,b,c,d⟩,h1⟩:=x
 obtain⟨⟨a',b',c',d'⟩,h2⟩:=y
 obtain⟨rfl,rfl,rfl,rfl,rfl⟩:=h
 rfl
def MixAt (f:Nat->A5)(a w:Nat)(z:A5):Prop:=if w / 2^a%2=0 then Mix 1 (f w) (f (w+2^a)) z else Mix (-1) (f (w-2^a)) (f w) z
structure Bd5 (K:PySem.W.Frag) (H:Hp) (l:Addr) (ps:List Addr) (f:Nat->A5) (c n m:Nat):Prop where
 lst:H l=some (.lst (ps.map V.ref))
 len:ps.length=2^c
 vals:ValsK K H ps f
 ok:∀ i,i<2^c->Ok5 n m (f i)
theorem Bd5.same {K:PySem.W.Frag}{H H':Hp}{l:Addr}{ps:List Addr}{f:Nat->A5}{c n m:Nat}(b:Bd5 K H l ps f c n m)(s:Same H H'):Bd5 K H' l ps f c n m:=⟨s _ _ b.lst,b.len,b.vals.same s,b.ok⟩
theorem Bd5.at {K:PySem.W.Frag}{H:Hp}{l:Addr}{ps:List Addr}{f:Nat->A5}{c n m i:Nat}(b:Bd5 K H l ps f c n m)(hi:i<2^c):∃ p,ps[i]?=some p/\At5 K H p (f i)/\atI (ps.map V.ref) (i:Int)=some (.ref p):=by
 have hl:i<ps.length:=by rw[b.len];exact hi
 refine⟨ps[i],List.getElem?_eq_getElem hl,b.vals i _ (List.getElem?_eq_getElem hl),Z4k (by rw[List.getElem?_map,List.getElem?_eq_getElem hl];rfl)⟩
def Z7l (K:PySem.W.Frag):Sp:=fun vs H Q _=>∃ (l:Addr) (ps:List Addr) (f:Nat->A5) (c n m a wd:Nat),vs=[.ref l,.int wd,.int ((2^a:Nat):Int)]/\Bd5 K H l ps f c n m/\c<=6/\a<c/\wd<2^c/\n<=450000/\m<=10000 ∧
 ∀ (r:Addr) (H':Hp) (z:A5),Same H H'->H' r=some (tA z)->Ok5 (n+2*m+3) (m+1:Nat) z->MixAt f a wd z->Q (.ref r) H'
def Y2r (K:PySem.W.Frag):Sp:=fun vs H Q _=>∃ (l:Addr) (ps:List Addr) (f:Nat->A5) (c n m a:Nat),vs=[.ref l,.int ((2^a:Nat):Int)]/\Bd5 K H l ps f c n m/\c<=6/\a<c/\n<=450000/\m<=10000 ∧
 ∀ (r:Addr) (H':Hp) (qs:List Addr) (g:Nat->A5),H r=none->Same H H'->Bd5 K H' r qs g c (n+2*m+3) (m+1)->(∀ w,w<2^c->MixAt f a w (g w))->Q (.ref r) H'
theorem X2j {n m:Nat}{x y z p:A5}(ox:Ok5 n m x)(oy:Ok5 n m y)(hp:p.2<=max x.2 y.2)(sp:Sz4 (n+x.2.toNat+y.2.toNat+2) p.1.1 p.1.2.1 p.1.2.2.1 p.1.2.2.2)
  (r:Red (p.1.2.1-p.1.2.2.2) (p.1.1+p.1.2.2.1) (p.1.2.1+p.1.2.2.2) (p.1.2.2.1-p.1.1) (p.2+1) z.1.1 z.1.2.1 z.1.2.2.1 z.1.2.2.2 z.2):Ok5 (n+2*m+3) (m+1:Nat) z:=by
 have hx:=ox.le
 have hy:=oy.le
 have hx0:=ox.amt.nn
 have hy0:=oy.amt.nn
 have s:Sz4 (n+2*m+2) p.1.1 p.1.2.1 p.1.2.2.1 p.1.2.2.2:=sp.mono (by omega)
 have neg:∀ {u v:Int},Sz (n+2*m+2) u->Sz (n+2*m+2) v->Sz (n+2*m+3) (u-v):=fun hu hv=>by rw[Int.sub_eq_add_neg];exact(hu.add hv.neg).mono (by omega)
 have add:∀ {u v:Int},Sz (n+2*m+2) u->Sz (n+2*m+2) v->Sz (n+2*m+3) (u+v):=fun hu hv=>(hu.add hv).mono (by omega)
 refine⟨r.sz ⟨neg s.z2 s.z4,add s.z1 s.z3,add s.z2 s.z4,neg s.z3 s.z1⟩,r.amt,?_⟩
 have:=r.le
 omega
theorem X2q {K:PySem.W.Frag}{H:Hp}{p q:Addr}{x y:A5}{n m:Nat}(hp:At5 K H p x)(hq:At5 K H q y)(ox:Ok5 n m x)(oy:Ok5 n m y)(hn:n<=450000)(hm:m<=10000):In2 K n [.ref p,.ref q] H p q x.1.1 x.1.2.1 x.1.2.2.1 x.1.2.2.2 x.2 y.1.1 y.1.2.1 y.1.2.2.1 y.1.2.2.2 y.2:=by
 have:=ox.le
 have:=oy.le
 exact⟨rfl,hp,hq,ox.amt.nn,oy.amt.nn,by omega,by omega,ox.sz,oy.sz⟩
theorem sc_mixedat:FnScope ["board","word","bit"] ["board","word","bit"] (Z0i (top 62)):=fS
theorem Y4s (F:FunAt K "mixed_at" (top 62) .none)(X:K.In h)(G:h.Ns mainGlobals mg)(c_rooted:Cal P w K mg base k "rooted" ["one"] Y2p)(c_minus:Cal P w K mg base k "minus" ["one","other"] (Y2s K))(c_plus:Cal P w K mg base k "plus" ["one","other"] (Y0x K)) :
  Cal P w K mg base (k+1) "mixed_at" ["board","word","bit"] (Z7l K):=by
 have nd:=sc_mixedat.nd
 refine F.cal X G sc_mixedat (bnd3 fun _ _ _ _ _ _ _ _ _=>rfl) (fun vs H Q E h=>?_) (fun f cdv A outer s H vs Q E hr h=>?_)
 ·obtain⟨l,ps,f,c,n,m,a,wd,rfl,_⟩:=h;rfl
 obtain⟨l,ps,g,c,n,m,a,wd,rfl,BD,c6,ac,wc,n3,m1,kq⟩:=h
 have SL:SqL K H l (ps.map V.ref):=SqL.of BD.lst
 refine⟨_,(@Z0e _ _ _ _ _ (Z0y (Z8k (Z0h Z1t (pv 1) (pv 2)) (by intro _;rfl))
   (@Z0g _ _ _ (Z0j (Z0k c_rooted hr rfl (Z0a (Z0k c_minus hr rfl (Z0a (Z0n Z1a (pv 0) (Z0h Z3n (pv 1) (pv 2)) (fun _ _=>rfl)) (Z0a (Z0n Z1a (pv 0) (pv 1) (fun _ _=>rfl)) Z0d))) Z0d))))
   Z0p)
  (@Z0g _ _ _ (Z0j (Z0k c_rooted hr rfl (Z0a (Z0k c_plus hr rfl (Z0a (Z0n Z1a (pv 0) (pv 1) (fun _ _=>rfl)) (Z0a (Z0n Z1a (pv 0) (Z0h Y1f (pv 1) (pv 2)) (fun _ _=>rfl)) Z0d))) Z0d))))),?_⟩
 try dsimp only[cxK]
 by_cases hb:wd / 2^a%2=0
 ·obtain⟨e1,e2,e3,_⟩:=X6l c6 ac wc hb
  obtain⟨p,_,hp,ap⟩:=BD.at wc
  obtain⟨q,_,hq,aq⟩:=BD.at e3
  refine⟨_,rfl,_,rfl,_,_,rfl,rfl,_,rfl,?_⟩
  rw[Z5s,e1]
  refine iteF ?_
  refine⟨_,rfl,_,rfl,l,_,_,_,rfl,rfl,SL,ap,_,rfl,_,rfl,_,rfl,_,_,rfl,rfl,l,_,_,_,rfl,rfl,SL,(by rw[or_i,e2];exact aq),?_⟩
  have ox:=BD.ok _ wc
  have oy:=BD.ok _ e3
  refine⟨n,p,q,_,_,_,_,_,_,_,_,_,_,X2q hp hq ox oy n3 m1,fun r1 H1 x y z u v S1 hr1 SU SZ=>?_⟩
  refine⟨r1,x,y,z,u,v,rfl,hr1,SU.amt.nn,fun r2 H2 x' y' z' u' v' S2 hr2 RE=>?_⟩
  refine kq r2 H2 ((x',y',z',u'),v') (S1.trans S2) hr2 (X2j (p:=((x,y,z,u),v)) ox oy SU.le SZ RE) ?_
  unfold MixAt
  rw[if_pos hb]
  exact⟨((x,y,z,u),v),by simpa only[Int.one_mul] using SU,RE.amt,RE.same⟩
 ·obtain⟨e1,e2,e3,_⟩:=X2a c6 ac wc hb
  obtain⟨p,_,hp,ap⟩:=BD.at (i:=wd-2^a) (Nat.lt_of_le_of_lt (Nat.sub_le _ _) wc)
  obtain⟨q,_,hq,aq⟩:=BD.at wc
  have ox:=BD.ok (wd-2^a) (Nat.lt_of_le_of_lt (Nat.sub_le _ _) wc)
  have oy:=BD.ok _ wc
  refine⟨_,rfl,_,rfl,_,_,rfl,rfl,_,rfl,?_⟩
  rw[Z5s,show ((((wd&&&2^a:Nat):Int) != 0)=true) by simpa using e1]
  refine iteT ?_
  refine⟨_,rfl,_,rfl,_,rfl,_,_,rfl,rfl,l,_,_,_,rfl,rfl,SL,(by rw[Z4p,e2];exact ap),_,rfl,_,rfl,l,_,_,_,rfl,rfl,SL,aq,?_⟩
  refine⟨n,p,q,_,_,_,_,_,_,_,_,_,_,X2q hp hq ox oy n3 m1,fun r1 H1 x y z u v S1 hr1 SU SZ=>?_⟩
  refine⟨r1,x,y,z,u,v,rfl,hr1,SU.amt.nn,fun r2 H2 x' y' z' u' v' S2 hr2 RE=>?_⟩
  refine kq r2 H2 ((x',y',z',u'),v') (S1.trans S2) hr2 (X2j (p:=((x,y,z,u),v)) ox oy SU.le SZ RE) ?_
  unfold MixAt
  rw[if_neg hb]
  exact⟨((x,y,z,u),v),by simpa only[Int.neg_one_mul] using SU,RE.amt,RE.same⟩
theorem sc_mixed:FnScope ["board","bit"] ["board","bit"] (Z0i (top 61)):=fS
theorem X0i (F:FunAt K "mixed" (top 61) .none)(X:K.In h)(G:h.Ns mainGlobals mg)(B:Bs mg)(c_mixed_at:Cal P w K mg base k "mixed_at" ["board","word","bit"] (Z7l K)):Cal P w K mg base (k+1) "mixed" ["board","bit"] (Y2r K):=by
 have nd:=sc_mixed.nd
 refine F.cal X G sc_mixed (bnd2 fun _ _ _ _ _ _ _ _=>rfl) (fun vs H Q E h=>?_) (fun f cdv A outer s H vs Q E hr h=>?_)
 ·obtain⟨l,ps,f,c,n,m,a,rfl,_⟩:=h;rfl
 obtain⟨l,ps,g,c,n,m,a,rfl,BD,c6,ac,n3,m1,kq⟩:=h
 have p6:=pow6 c6
 have SL:SqL K H l (ps.map V.ref):=SqL.of BD.lst
 have hlen:(((ps.map V.ref).length:Nat):Int).toNat=2^c:=by rw[List.length_map,BD.len,Int.toNat_natCast]
 refine⟨_,(@Z0g _ _ _ (Z0j (Z3k rfl (LcOk.of (Nc:=["word","board","bit"]) (mp:=[none,some 0,some 1]) (by kernel_rfl)) (Z0w rfl B.range (Z0a (Z0q Z0v rfl B.len PySem.boot_len (Z0a (pv 0) Z0d)) Z0d)) (fun _ _ _ _=>(Z0m (i:=0) (show (["word","board","bit"]:List Str).Nodup by decide +kernel) rfl (Or.inl rfl))) (fun _ _ _ _=>(Z0k c_mixed_at hr rfl (Z0a (pv 1) (Z0a (pv 0) (Z0a (pv 2) Z0d)))))))),?_⟩
 try dsimp only[cxK]
 refine⟨_,rfl,l,_,rfl,.inl SL,_,rfl,by rw[List.length_map,BD.len];omega,by rw[List.length_map,BD.len];omega,fun acc hacc=>?_⟩
 rw[hlen]
 refine Z3s (n:=2^c) (fr:=[some (.ref l),some (.int ((2^a:Nat):Int))]) (fun i ys H'=>∃ (qs:List Addr) (y:Nat->A5),Same H H'/\H' acc=some (.lst ys)/\ys=qs.map V.ref/\qs.length=i/\ValsK K H' qs y/\∀ j,j<i->Ok5 (n+2*m+3) (m+1:Nat) (y j)/\MixAt g a j (y j)) (t64 p6)
  ⟨[],fun _=>((0,0,0,0),0),Z0f hacc _,Z0c,rfl,rfl,(fun _ _ z=>by cases z),fun j hj=>absurd hj (Nat.not_lt_zero _)⟩ ?_ ?_
 ·rintro i ys H2 N hi hy ⟨qs,y,S2,a2,rfl,ql,v2,ok2⟩ kN
  refine⟨_,rfl,_,rfl,_,rfl,l,ps,g,c,n,m,a,i,(by show [V.ref l,V.int (0+(i:Int)),_]=_;rw[Int.zero_add]),BD.same S2,c6,ac,hi,n3,m1,fun r H3 z S3 hr3 oz mz=>?_⟩
  refine kN (.ref r) H3 (S3 _ _ a2) ⟨qs++[r],fun j=>if j=qs.length then z else y j,Z0s (S2.trans S3) hacc,Z0c,by rw[List.map_append];rfl,by simp[ql],Z2t (xs:=qs.map V.ref) (Z3c v2 S3 (At5.of hr3)) (S3 _ _ a2),fun j hj=>?_⟩
  by_cases e:j=qs.length
  ·show Ok5 _ _ (if j=qs.length then z else y j)/\MixAt g a j (if j=qs.length then z else y j)
   rw[if_pos e,e,ql]
   exact⟨oz,mz⟩
  ·show Ok5 _ _ (if j=qs.length then z else y j)/\MixAt g a j (if j=qs.length then z else y j)
   rw[if_neg e]
   exact ok2 j (by omega)
 ·rintro ys H2 hy ⟨qs,y,S2,a2,rfl,ql,v2,ok2⟩
  exact kq acc H2 qs y hacc S2 ⟨a2,ql,v2,fun i hi=>(ok2 i hi).1⟩ fun w hw=>(ok2 w hw).2
end
end K62
namespace L2
open PySem PySem.Spec PyProof.Rows
abbrev Mm:=Str × List Int
abbrev mT (m:Mm):HO:=.tup (.str m.1::m.2.map V.int)
def RowsM (H:Hp):List Addr->List Mm->Prop:=Paired fun p m=>H p=some (mT m)
theorem RowsM.same {H H':Hp}{ps:List Addr}{ms:List Mm}(h:RowsM H ps ms)(s:Same H H'):RowsM H' ps ms:=Paired.imp' (fun _ _ c=>s _ _ c) h
section
variable {P:Program}{w:World}{H:Hp}{h:Heap}
end
section
variable {X:Cx}
end
end L2
namespace L2
open PySem PySem.Spec PyProof.Rows
end L2
namespace K62
open PySem PySem.Spec PyProof.Rows L2 Am Pc Ba
theorem Z7v {x h y g N:Int}(hh:0<=h)(hg:0<=g)(h1:h<=N)(h2:g<=N):Eq2 x h y g ↔ x*p2 (N-h)=y*p2 (N-g):=by
 unfold Eq2
 have e1:=Z5v hh h1
 have e2:=Z5v hg h2
 have n1:=Z9s h
 have n2:=Z9s g
 have n3:=Z9s (N-h)
 have n4:=Z9s (N-g)
 have n5:=Z9s N
 constructor
 ·intro z
  have:(x*p2 (N-h))*(p2 h*p2 g)=(y*p2 (N-g))*(p2 h*p2 g):=by
   have a1:(x*p2 (N-h))*(p2 h*p2 g)=(x*p2 g)*p2 N:=by rw[e1];grind
   have a2:(y*p2 (N-g))*(p2 h*p2 g)=(y*p2 h)*p2 N:=by rw[e2];grind
   rw[a1,a2,z]
  exact Int.eq_of_mul_eq_mul_right (Int.mul_ne_zero n1 n2) this
 ·intro z
  have:(x*p2 g)*p2 N=(y*p2 h)*p2 N:=by
   have a1:(x*p2 (N-h))*(p2 h*p2 g)=(x*p2 g)*p2 N:=by rw[e1];grind
   have a2:(y*p2 (N-g))*(p2 h*p2 g)=(y*p2 h)*p2 N:=by rw[e2];grind
   rw[<-a1,<-a2,z]
  exact Int.eq_of_mul_eq_mul_right n5 this
def va (x:A5)(M:Int):Int:=x.1.1*p2 (M-x.2)
def vb (x:A5)(M:Int):Int:=x.1.2.1*p2 (M-x.2)
def vc (x:A5)(M:Int):Int:=x.1.2.2.1*p2 (M-x.2)
def vd (x:A5)(M:Int):Int:=x.1.2.2.2*p2 (M-x.2)
theorem X3u {n:Int}(h:0<=n):p2 (n+2)=4*p2 n:=by
 rw[Z9t h (by decide),show p2 2=4 from rfl,Int.mul_comm]
theorem Z8c {a a' u h h' g M:Int}(h0:0<=h)(h0':0<=h')(g0:0<=g)(l1:h+h'<=M)(l2:g<=M)(e:Eq2 (a*p2 h'+a'*p2 h) (h+h') u g):u*p2 (M-g)=a*p2 (M-h)+a'*p2 (M-h'):=by
 have z:=(Z7v (by omega) g0 l1 l2).mp e
 have e1:p2 (M-h)=p2 (M-(h+h'))*p2 h':=by rw[<-Z9t (by omega) h0'];congr 1;omega
 have e2:p2 (M-h')=p2 (M-(h+h'))*p2 h:=by rw[<-Z9t (by omega) h0];congr 1;omega
 rw[<-z,e1,e2]
 grind
theorem Z5z {u v h g M:Int}(h0:0<=h)(g0:0<=g)(l1:h<=M)(l2:g<=M+1)(e:Eq2 u (h+1) v g):v*p2 (M+1-g)=u*p2 (M-h):=by
 have z:=(Z7v (N:=M+1) (by omega) g0 (by omega) l2).mp e
 rw[<-z]
 congr 2
 omega
theorem Mix.vals {s:Int}{x y z:A5}(m:Mix s x y z)(hx:0<=x.2)(hy:0<=y.2):∃ M0:Int,∀ M,M0<=M →
  va z (M+1)=(vb x M+s*vb y M)-(vd x M+s*vd y M)/\vb z (M+1)=(va x M+s*va y M)+(vc x M+s*vc y M)/\vc z (M+1)=(vb x M+s*vb y M)+(vd x M+s*vd y M)/\vd z (M+1)=(vc x M+s*vc y M)-(va x M+s*va y M):=by
 obtain⟨p,S,az,R⟩:=m.ex
 have p0:=S.amt.nn
 have z0:=az.nn
 refine⟨x.2+y.2+p.2+z.2,fun M hM=>?_⟩
 have l1:x.2+y.2<=M:=by omega
 have l2:p.2<=M:=by omega
 have l3:z.2<=M+1:=by omega
 have a1:=Z8c hx hy p0 l1 l2 S.same.e1
 have a2:=Z8c hx hy p0 l1 l2 S.same.e2
 have a3:=Z8c hx hy p0 l1 l2 S.same.e3
 have a4:=Z8c hx hy p0 l1 l2 S.same.e4
 have r1:=Z5z p0 z0 l2 l3 R.e1
 have r2:=Z5z p0 z0 l2 l3 R.e2
 have r3:=Z5z p0 z0 l2 l3 R.e3
 have r4:=Z5z p0 z0 l2 l3 R.e4
 unfold va vb vc vd
 rw[r1,r2,r3,r4,Int.sub_mul,Int.add_mul,Int.add_mul,Int.sub_mul,a1,a2,a3,a4]
 refine⟨?_,?_,?_,?_⟩<;>grind
theorem Y2c {x y:A5}{M:Int}(ax:Amt x.1.1 x.1.2.1 x.1.2.2.1 x.1.2.2.2 x.2)(ay:Amt y.1.1 y.1.2.1 y.1.2.2.1 y.1.2.2.2 y.2)(l1:x.2<=M)(l2:y.2<=M)(e1:va x M=va y M)(e2:vb x M=vb y M)(e3:vc x M=vc y M)(e4:vd x M=vd y M):x=y :=
 X2v (ax.unique ay ⟨(Z7v ax.nn ay.nn l1 l2).mpr e1,(Z7v ax.nn ay.nn l1 l2).mpr e2,(Z7v ax.nn ay.nn l1 l2).mpr e3,(Z7v ax.nn ay.nn l1 l2).mpr e4⟩)
theorem Y2d {x:A5}{M:Int}(l:x.2<=M):va x (M+2)=4*va x M/\vb x (M+2)=4*vb x M/\vc x (M+2)=4*vc x M/\vd x (M+2)=4*vd x M:=by
 unfold va vb vc vd
 rw[show M+2-x.2=(M-x.2)+2 by omega,X3u (by omega)]
 refine⟨?_,?_,?_,?_⟩<;>grind
theorem Mix.amt {s:Int}{x y z:A5}(m:Mix s x y z):Amt z.1.1 z.1.2.1 z.1.2.2.1 z.1.2.2.2 z.2:=by
 obtain⟨p,_,az,_⟩:=m.ex
 exact az
theorem X4u {x y z0 z1 x' y':A5}(ax:Amt x.1.1 x.1.2.1 x.1.2.2.1 x.1.2.2.2 x.2)(ay:Amt y.1.1 y.1.2.1 y.1.2.2.1 y.1.2.2.2 y.2)(m0:Mix 1 x y z0)(m1:Mix (-1) x y z1)(n0:Mix 1 z0 z1 x')(n1:Mix (-1) z0 z1 y'):x'=x/\y'=y:=by
 have a0:=m0.amt
 have a1:=m1.amt
 have b0:=n0.amt
 have b1:=n1.amt
 obtain⟨M1,h1⟩:=m0.vals ax.nn ay.nn
 obtain⟨M2,h2⟩:=m1.vals ax.nn ay.nn
 obtain⟨M3,h3⟩:=n0.vals a0.nn a1.nn
 obtain⟨M4,h4⟩:=n1.vals a0.nn a1.nn
 have nx:=ax.nn
 have ny:=ay.nn
 have nx':=b0.nn
 have ny':=b1.nn
 obtain⟨M,g1,g2,g3,g4,g5,g6,g7,g8⟩:∃ M:Int,M1<=M/\M2<=M/\M3<=M+1/\M4<=M+1/\x.2<=M/\y.2<=M/\x'.2<=M/\y'.2<=M :=
  ⟨max M1 0+max M2 0+max M3 0+max M4 0+x.2+y.2+x'.2+y'.2,by omega,by omega,by omega,by omega,by omega,by omega,by omega,by omega⟩
 obtain⟨p1,p2',p3,p4⟩:=h1 M g1
 obtain⟨q1,q2,q3,q4⟩:=h2 M g2
 obtain⟨r1,r2,r3,r4⟩:=h3 (M+1) g3
 obtain⟨s1,s2,s3,s4⟩:=h4 (M+1) g4
 obtain⟨x1,x2,x3,x4⟩:=Y2d g5
 obtain⟨y1,y2,y3,y4⟩:=Y2d g6
 rw[show M+1+1=M+2 by omega] at r1 r2 r3 r4 s1 s2 s3 s4
 constructor
 ·exact Y2c b0 ax (M:=M+2) (by omega) (by omega) (by omega) (by omega) (by omega) (by omega)
 ·exact Y2c b1 ay (M:=M+2) (by omega) (by omega) (by omega) (by omega) (by omega) (by omega)
inductive Gm where
 | mv (v:Mv)
 | mix (a:Nat)
namespace Gm
def nm:Gm->Str
 | mv v=>v.nm
 | mix _=>"mix"
def ns:Gm->List Int
 | mv v=>v.ns
 | mix a=>[(a:Int)]
def Ok (c:Nat):Gm->Prop
 | mv v=>v.Ok c
 | mix a=>a<c
def back:Gm->Gm
 | mv (.turn a k)=>mv (.turn a (8-k))
 | m=>m
abbrev mm (m:Gm):Mm:=(m.nm,m.ns)
end Gm
def Step (c:Nat):Gm->(Nat->A5)->(Nat->A5)->Prop
 | .mv v,f,g=>∀ w,w<2^c->g w=spin (f (v.to w)) (v.sp w:Nat)
 | .mix a,f,g=>∀ w,w<2^c->MixAt f a w (g w)
inductive Steps (c:Nat):List Gm->(Nat->A5)->(Nat->A5)->Prop
 | nil {f:Nat->A5}:Steps c [] f f
 | cons {m:Gm}{ms:List Gm}{f g h:Nat->A5}:Step c m f g->Steps c ms g h->Steps c (m::ms) f h
theorem Steps.snoc {c:Nat}:∀ {a:List Gm}{m:Gm}{f g h:Nat->A5},Steps c a f g->Step c m g h->Steps c (a++[m]) f h
 | _,_,_,_,_,.nil,s=>.cons s .nil
 | _,_,_,_,_,.cons s t,r=>.cons s (Steps.snoc t r)
abbrev Ams (c:Nat)(f:Nat->A5):Prop:=∀ w,w<2^c->Amt (f w).1.1 (f w).1.2.1 (f w).1.2.2.1 (f w).1.2.2.2 (f w).2
theorem Y9a {v:Int × Int × Int × Int}{h:Int}(o:Amt v.1 v.2.1 v.2.2.1 v.2.2.2 h):∀ k,Amt (rot k v).1 (rot k v).2.1 (rot k v).2.2.1 (rot k v).2.2.2 h
 | 0=>o
 | k+1=>by
  have:=Y9a o k
  refine⟨this.nn,?_⟩
  have o:h=0∨(rot k v).1%2=1∨(rot k v).2.1%2=1∨(rot k v).2.2.1%2=1∨(rot k v).2.2.2%2=1:=this.odd
  show h=0∨(-(rot k v).2.2.2)%2=1∨(rot k v).1%2=1∨(rot k v).2.1%2=1∨(rot k v).2.2.1%2=1
  omega
theorem Step.ams {c:Nat}{m:Gm}{f g:Nat->A5}(hc:c<=6)(ok:m.Ok c)(s:Step c m f g)(a:Ams c f):Ams c g:=by
 intro w hw
 cases m with
 | mv v =>
  have e:g w=spin (f (v.to w)) (v.sp w:Nat):=s w hw
  rw[e]
  exact Y9a (a _ (Mv.to_lt hc ok hw)) _
 | mix a =>
  have e:MixAt f a w (g w):=s w hw
  unfold MixAt at e
  split at e
  ·exact e.amt
  ·exact e.amt
theorem Z9e (x:A5){k:Nat}(h:k<=8):spin (spin x (k:Nat)) ((8-k:Nat):Int)=x:=by
 obtain⟨⟨a,b,c,d⟩,g⟩:=x
 have:k=0∨k=1∨k=2∨k=3∨k=4∨k=5∨k=6∨k=7∨k=8:=by omega
 rcases this with rfl | rfl | rfl | rfl | rfl | rfl | rfl | rfl | rfl<;>simp[spin,rot]
theorem Y5m {c:Nat}{m:Gm}{f g k h:Nat->A5}(hc:c<=6)(ok:m.Ok c)(af:Ams c f)(s:Step c m f g)(e:∀ w,w<2^c->k w=g w)(t:Step c m.back k h):∀ w,w<2^c->h w=f w:=by
 intro w hw
 cases m with
 | mix a =>
  have ok:a<c:=ok
  have s':∀ w,w<2^c->MixAt f a w (g w):=s
  have t':∀ w,w<2^c->MixAt k a w (h w):=t
  have key:∀ u,u<2^c->u / 2^a%2=0->h u=f u/\h (u+2^a)=f (u+2^a):=fun u hu hb=>by
   obtain⟨_,_,l2,b2⟩:=X6l hc ok hu hb
   have m0:=s' u hu
   have m1:=s' (u+2^a) l2
   have n0:=t' u hu
   have n1:=t' (u+2^a) l2
   unfold MixAt at m0 m1 n0 n1
   rw[if_pos hb] at m0 n0
   rw[if_neg (by omega),Nat.add_sub_cancel] at m1 n1
   rw[e u hu,e _ l2] at n0 n1
   exact X4u (af u hu) (af _ l2) m0 m1 n0 n1
  by_cases hb:w / 2^a%2=0
  ·exact(key w hw hb).1
  ·obtain⟨_,_,l2,b2⟩:=X2a hc ok hw hb
   have:=(key (w-2^a) (Nat.lt_of_le_of_lt (Nat.sub_le _ _) hw) b2).2
   rw[Nat.sub_add_cancel l2] at this
   exact this
 | mv v =>
  have s':∀ w,w<2^c->g w=spin (f (v.to w)) (v.sp w:Nat):=s
  cases v with
  | turn a kk =>
   have ok:a<c/\1<=kk/\kk<=7:=ok
   have t':∀ w,w<2^c->h w=spin (k w) ((if w&&&2^a=2^a then 8-kk else 0:Nat):Int):=t
   have s1:g w=spin (f w) ((if w&&&2^a=2^a then kk else 0:Nat):Int):=s' w hw
   rw[t' w hw,e w hw,s1]
   by_cases q:w&&&2^a=2^a
   ·rw[if_pos q,if_pos q]
    exact Z9e _ (by omega)
   ·rw[if_neg q,if_neg q]
    rfl
  | pair a b =>
   have t':∀ w,w<2^c->h w=spin (k w) ((if w&&&(2^a ||| 2^b)=(2^a ||| 2^b) then 4 else 0:Nat):Int):=t
   have s1:g w=spin (f w) ((if w&&&(2^a ||| 2^b)=(2^a ||| 2^b) then 4 else 0:Nat):Int):=s' w hw
   rw[t' w hw,e w hw,s1]
   by_cases q:w&&&(2^a ||| 2^b)=(2^a ||| 2^b)
   ·rw[if_pos q]
    exact Z9e _ (by decide)
   ·rw[if_neg q]
    rfl
  | flip a =>
   have t':∀ w,w<2^c->h w=k ((Mv.flip a).to w):=t
   have l:=Mv.to_lt (v:=.flip a) hc ok hw
   have s1:g ((Mv.flip a).to w)=f ((Mv.flip a).to ((Mv.flip a).to w)):=s' _ l
   rw[t' w hw,e _ l,s1,Mv.to_to (v:=.flip a) hc ok hw]
  | iff a b =>
   have t':∀ w,w<2^c->h w=k ((Mv.iff a b).to w):=t
   have l:=Mv.to_lt (v:=.iff a b) hc ok hw
   have s1:g ((Mv.iff a b).to w)=f ((Mv.iff a b).to ((Mv.iff a b).to w)):=s' _ l
   rw[t' w hw,e _ l,s1,Mv.to_to (v:=.iff a b) hc ok hw]
  | swap a b =>
   have t':∀ w,w<2^c->h w=k ((Mv.swap a b).to w):=t
   have l:=Mv.to_lt (v:=.swap a b) hc ok hw
   have s1:g ((Mv.swap a b).to w)=f ((Mv.swap a b).to ((Mv.swap a b).to w)):=s' _ l
   rw[t' w hw,e _ l,s1,Mv.to_to (v:=.swap a b) hc ok hw]
  | cross a b d =>
   have t':∀ w,w<2^c->h w=k ((Mv.cross a b d).to w):=t
   have l:=Mv.to_lt (v:=.cross a b d) hc ok hw
   have s1:g ((Mv.cross a b d).to w)=f ((Mv.cross a b d).to ((Mv.cross a b d).to w)):=s' _ l
   rw[t' w hw,e _ l,s1,Mv.to_to (v:=.cross a b d) hc ok hw]
theorem Gm.fits {m:Gm}{c:Nat}(h:m.Ok c):Fits m.nm m.ns c:=by
 cases m with
 | mv v=>exact Mv.fits h
 | mix a =>
  have e:named "mix" [(a:Int)]=[(a:Int)]:=by unfold named;rw[if_neg (by decide +kernel)]
  have h:a<c:=h
  exact⟨⟨(show numAt NB "mix"=some (.int ((1:Nat):Int)) by decide +kernel),(show 1<=3 by decide),fun z=>absurd (show ("mix":Str)="turn" from z) (by decide +kernel)⟩,by show ∀ x∈named "mix" [(a:Int)],_;rw[e];intro b hb;rw[List.mem_singleton.mp hb];omega,by show (named "mix" [(a:Int)]).Nodup;rw[e];simp⟩
theorem Y3i {n:Nat}{M:Int}{x:A5}{k:Int}(o:Ok5 n M x):Ok5 n M (spin x k):=Z9x o _
theorem Bd5.bo {K:PySem.W.Frag}{H:Hp}{l:Addr}{ps:List Addr}{f:Nat->A5}{c n m:Nat}(b:Bd5 K H l ps f c n m):Bo K H l ps f c:=⟨b.lst,b.len,b.vals⟩
def Z9g (K:PySem.W.Frag):Sp:=fun vs H Q _=>∃ (l p:Addr) (ps:List Addr) (f:Nat->A5) (c n M:Nat) (m:Gm),vs=[.ref l,.ref p]/\H p=some (MvT m.nm m.ns)/\m.Ok c/\Bd5 K H l ps f c n M/\c<=6/\n<=450000/\M<=10000 ∧
 ∀ (r:Addr) (H':Hp) (qs:List Addr) (g:Nat->A5),H r=none->Same H H'->Bd5 K H' r qs g c (n+2*M+3) (M+1)->Step c m f g->Q (.ref r) H'
section
variable {P:Program}{w:World}{K:PySem.W.Frag}{mg:Str->Option Value}{base:Heap}{k:Nat}{h:Heap}
theorem sc_turned:FnScope ["board","move"] ["board","move"] (Z0i (top 60)):=fS
theorem Y6q (F:FunAt K "turned" (top 60) .none)(X:K.In h)(G:h.Ns mainGlobals mg)(B:Bs mg)(c_check_move:Cal P w K mg base k "check_move" ["move","cells"] Y5w)(c_cells_of:Cal P w K mg base k "cells_of" ["board"] (Z6l K))(c_mixed:Cal P w K mg base k "mixed" ["board","bit"] (Y2r K))(c_spun_where:Cal P w K mg base k "spun_where" ["board","bits","k"] (Y2n K))
  (c_word_behind:Cal P w K mg base k "word_behind" ["word","move"] Y2y):Cal P w K mg base (k+1) "turned" ["board","move"] (Z9g K):=by
 have nd:=sc_turned.nd
 refine F.cal X G sc_turned (bnd2 fun _ _ _ _ _ _ _ _=>rfl) (fun vs H Q E h=>?_) (fun f cdv A outer s H vs Q E hr h=>?_)
 ·obtain⟨l,p,ps,f,c,n,M,m,rfl,_⟩:=h;rfl
 obtain⟨l,p,ps,g,c,n,M,m,rfl,hp,ok,BD,c6,n4,m1,kq0⟩:=h
 have p6:=pow6 c6
 have BO:=BD.bo
 have ip:∀ a:Nat,(1:Int)*2^((a:Int)).toNat=((2^a:Nat):Int):=fun a=>ipow a
 refine⟨_,(@Z0e _ _ _ _ _ (Z3i (Z0k c_check_move hr rfl (Z0a (pv 1) (Z0a (Z0k c_cells_of hr rfl (Z0a (pv 0) Z0d)) Z0d))))
  (@Z0e _ _ _ _ _ (Z0y (Z0o Z1u (Z0n Z0l (pv 1) Z0b (fun _ _=>rfl)) Z2b (nomark _))
   (@Z0g _ _ _ (Z0j (Z0k c_mixed hr rfl (Z0a (pv 0) (Z0a (Z0h Z1r Z0b (Z0n Z0l (pv 1) Z0b (fun _ _=>rfl))) Z0d)))))
   Z0p)
  (@Z0e _ _ _ _ _ (Z0y (Z0o Z1u (Z0n Z0l (pv 1) Z0b (fun _ _=>rfl)) Z2b (nomark _))
   (@Z0g _ _ _ (Z0j (Z0k c_spun_where hr rfl (Z0a (pv 0) (Z0a (Z0h Z1r Z0b (Z0n Z0l (pv 1) Z0b (fun _ _=>rfl))) (Z0a (Z0n Z0l (pv 1) Z0b (fun _ _=>rfl)) Z0d))))))
   Z0p)
  (@Z0e _ _ _ _ _ (Z0y (Z0o Z1u (Z0n Z0l (pv 1) Z0b (fun _ _=>rfl)) Z2b (nomark _))
   (@Z0g _ _ _ (Z0j (Z0k c_spun_where hr rfl (Z0a (pv 0) (Z0a (Z0h Y1f (Z0h Z1r Z0b (Z0n Z0l (pv 1) Z0b (fun _ _=>rfl))) (Z0h Z1r Z0b (Z0n Z0l (pv 1) Z0b (fun _ _=>rfl)))) (Z0a Z0b Z0d))))))
   Z0p)
  (@Z0g _ _ _ (Z0j (Z3k rfl (LcOk.of (Nc:=["word","board","move"]) (mp:=[none,some 0,some 1]) (by kernel_rfl)) (Z0w rfl B.range (Z0a (Z0q Z0v rfl B.len PySem.boot_len (Z0a (pv 0) Z0d)) Z0d)) (fun _ _ _ _=>(Z0m (i:=0) (show (["word","board","move"]:List Str).Nodup by decide +kernel) rfl (Or.inl rfl))) (fun _ _ _ _=>(Z0n Z8p (pv 1) (Z0k c_word_behind hr rfl (Z0a (pv 0) (Z0a (pv 2) Z0d))) (fun _ _=>rfl)))))))))),?_⟩
 try dsimp only[cxK]
 refine⟨_,rfl,_,rfl,l,_,c,rfl,SqL.of BO.lst,by rw[List.length_map,BO.len],c6,p,m.nm,m.ns,c,rfl,hp,Gm.fits ok,fun H1 S1=>?_⟩
 have SP:SqT K H1 p (.str m.nm::m.ns.map V.int):=SqT.of (S1 _ _ hp)
 have B1:=BO.same S1
 have BD1:=BD.same S1
 cases m with
 | mix a =>
  have ac:a<c:=ok
  refine⟨_,rfl,p,_,_,.str "mix",rfl,rfl,SP,at0,rfl,_,rfl,decI (fun _=>?_) (fun z=>absurd rfl z)⟩
  refine⟨_,rfl,_,rfl,p,_,_,.int a,rfl,rfl,SP,rfl,_,_,rfl,rfl,⟨1,sz1,by omega,by omega⟩,?_⟩
  exact⟨l,ps,g,c,n,M,a,congrArg (fun z=>[V.ref l,V.int z]) (ip a),BD1,c6,ac,n4,m1,fun r H2 qs y hr2 S2 B2 M2=>kq0 r H2 qs y (S1.free hr2) (S1.trans S2) B2 M2⟩
 | mv v =>
 have SP:SqT K H1 p (.str v.nm::v.ns.map V.int):=SP
 have ok:v.Ok c:=ok
 have hp:H p=some (MvT v.nm v.ns):=hp
 have kq:∀ (r:Addr) (H':Hp) (qs:List Addr) (y:Nat->A5),H r=none->Same H H'->Bo K H' r qs y c->(∀ w,w<2^c->y w=spin (g (v.to w)) (v.sp w:Nat))->Q (.ref r) H':=fun r H' qs y h1 h2 h3 h4 =>
  kq0 r H' qs y h1 h2 ⟨h3.lst,h3.len,h3.vals,fun i hi=>by rw[h4 i hi];exact(Y3i (BD.ok _ (Mv.to_lt c6 ok hi))).mono (by omega) (by omega)⟩ h4
 refine⟨_,rfl,p,_,_,.str v.nm,rfl,rfl,SP,at0,rfl,_,rfl,decI (fun z=>absurd (V.str.inj z) (X4r v)) (fun _=>?_)⟩
 refine⟨_,rfl,p,_,_,.str v.nm,rfl,rfl,SP,at0,rfl,_,rfl,decI (fun z=>?_) (fun zt=>?_)⟩
 ·obtain⟨a,kk,rfl⟩:=X4s (V.str.inj z)
  have ok:a<c/\1<=kk/\kk<=7:=ok
  refine⟨_,rfl,_,rfl,p,_,_,.int a,rfl,rfl,SP,rfl,_,_,rfl,rfl,⟨1,sz1,by omega,by omega⟩,_,rfl,p,_,_,.int kk,rfl,rfl,SP,rfl,?_⟩
  refine⟨l,ps,g,c,2^a,kk,(by show [V.ref l,V.int (1*2^((a:Int)).toNat),V.int (kk:Int)]=_;rw[ip]),B1,c6,fun r H2 qs y hr2 S2 B2 M2=>kq r H2 qs y (S1.free hr2) (S1.trans S2) B2 fun w hw=>?_⟩
  rw[M2 w hw]
  show _=spin (g w) ((if w&&&2^a=2^a then kk else 0:Nat):Int)
  split
  ·rfl
  ·rfl
 refine⟨_,rfl,p,_,_,.str v.nm,rfl,rfl,SP,at0,rfl,_,rfl,decI (fun z=>?_) (fun zp=>?_)⟩
 ·obtain⟨a,b,rfl⟩:=X4t (V.str.inj z)
  have ok:a<c/\b<c/\a≠b:=ok
  refine⟨_,rfl,_,rfl,p,_,_,.int a,rfl,rfl,SP,rfl,_,_,rfl,rfl,⟨1,sz1,by omega,by omega⟩,_,rfl,p,_,_,.int b,rfl,rfl,SP,rfl,_,_,rfl,rfl,⟨1,sz1,by omega,by omega⟩,_,_,rfl,rfl,?_⟩
  refine⟨l,ps,g,c,2^a ||| 2^b,4,(by show [V.ref l,V.int (Builtin.bitOr (1*2^((a:Int)).toNat) (1*2^((b:Int)).toNat)),V.int 4]=_;rw[ip,ip,or_i]),B1,c6,fun r H2 qs y hr2 S2 B2 M2=>kq r H2 qs y (S1.free hr2) (S1.trans S2) B2 fun w hw=>?_⟩
  rw[M2 w hw]
  show _=spin (g w) ((if w&&&(2^a ||| 2^b)=(2^a ||| 2^b) then 4 else 0:Nat):Int)
  split
  ·rfl
  ·rfl
 have nt:v.nm≠"turn":=fun e=>zt (by rw[e])
 have np:v.nm≠"pair":=fun e=>zp (by rw[e])
 have hlen:(((ps.map V.ref).length:Nat):Int).toNat=2^c:=by rw[List.length_map,BO.len,Int.toNat_natCast]
 have SL:SqL K H1 l (ps.map V.ref):=SqL.of B1.lst
 refine⟨_,rfl,l,_,rfl,.inl SL,_,rfl,by rw[List.length_map,BO.len];omega,by rw[List.length_map,BO.len];omega,fun acc hacc=>?_⟩
 rw[hlen]
 refine Z3s (n:=2^c) (fr:=[some (.ref l),some (.ref p)]) (fun i ys H'=>∃ (qs:List Addr) (y:Nat->A5),Same H1 H'/\H' acc=some (.lst ys)/\ys=qs.map V.ref/\qs.length=i/\ValsK K H' qs y/\∀ j,j<i->y j=g (v.to j)) (t64 p6)
  ⟨[],fun _=>((0,0,0,0),0),Z0f hacc _,Z0c,rfl,rfl,(fun _ _ z=>by cases z),fun j hj=>absurd hj (Nat.not_lt_zero _)⟩ ?_ ?_
 ·rintro i ys H2 N hi hy ⟨qs,y,S2,a2,rfl,ql,v2,ok2⟩ kN
  refine⟨_,rfl,_,rfl,_,rfl,i,p,v,c,(by show [V.int (0+(i:Int)),V.ref p]=_;rw[Int.zero_add]),S2 _ _ (S1 _ _ hp),ok,c6,nt,np,fun H3 S3=>?_⟩
  obtain⟨q,_,hq,aq⟩:=((B1.same S2).same S3).at (Mv.to_lt c6 ok hi)
  refine⟨l,_,_,_,rfl,rfl,SqL.of (S3 _ _ (S2 _ _ B1.lst)),aq,?_⟩
  refine kN (.ref q) H3 (S3 _ _ a2) ⟨qs++[q],fun j=>if j=qs.length then g (v.to i) else y j,Z0s (S2.trans S3) hacc,Z0c,by rw[List.map_append];rfl,by simp[ql],Z2t (xs:=qs.map V.ref) (Z3c v2 S3 hq) (S3 _ _ a2),fun j hj=>?_⟩
  show (if j=qs.length then g (v.to i) else y j)=_
  by_cases e:j=qs.length
  ·rw[if_pos e,e,ql]
  ·rw[if_neg e]
   exact ok2 j (by omega)
 ·rintro ys H2 hy ⟨qs,y,S2,a2,rfl,ql,v2,ok2⟩
  refine kq acc H2 qs y (S1.free hacc) (S1.trans S2) ⟨a2,ql,v2⟩ fun w hw=>?_
  rw[ok2 w hw,X3g nt np w]
  rfl
def Mvs (H:Hp)(ps:List Addr)(ms:List Gm):Prop:=RowsM H ps (ms.map Gm.mm)
theorem Mvs.same {H H':Hp}{ps:List Addr}{ms:List Gm}(h:Mvs H ps ms)(s:Same H H'):Mvs H' ps ms:=RowsM.same h s
theorem Mvs.length {H:Hp}{ps:List Addr}{ms:List Gm}(h:Mvs H ps ms):ps.length=ms.length:=by
 have:=Paired.length h
 rw[List.length_map] at this
 exact this
theorem Mvs.get {H:Hp}:∀ {ps:List Addr}{ms:List Gm}{i:Nat}{p:Addr},Mvs H ps ms->ps[i]?=some p->∃ m,ms[i]?=some m/\H p=some (MvT m.nm m.ns)
 | p'::ps,m::ms,0,p,.cons a r,h=>by
  have:p'=p:=by simpa using h
  subst this
  exact⟨m,rfl,a⟩
 | p'::ps,m::ms,i+1,p,.cons a r,h=>by
  obtain⟨m',b,c⟩:=Mvs.get (ps:=ps) (ms:=ms) (i:=i) (p:=p) r (by simpa using h)
  exact⟨m',b,c⟩
theorem Mvs.snoc {H:Hp}{ps:List Addr}{ms:List Gm}{p:Addr}{m:Gm}(h:Mvs H ps ms)(e:H p=some (MvT m.nm m.ns)):Mvs H (ps++[p]) (ms++[m]):=by
 unfold Mvs
 rw[List.map_append]
 exact Paired.snoc h e
theorem Mvs.upd {H:Hp}{l:Addr}{xs ys:List V}{ps:List Addr}{ms:List Gm}(h:Mvs H ps ms)(hl:H l=some (.lst xs)):Mvs (upd H l (.lst ys)) ps ms :=
 Paired.imp' (fun _ _ c=>by rw[Z0x (Z5o c hl (by intro z;cases z))];exact c) h
structure Rw (H:Hp) (l:Addr) (ps:List Addr) (ms:List Gm) (c:Nat):Prop where
 lst:H l=some (.lst (ps.map V.ref))
 mvs:Mvs H ps ms
 ok:∀ m∈ms,m.Ok c
 len:ms.length<=200
theorem Rw.same {H H':Hp}{l:Addr}{ps:List Addr}{ms:List Gm}{c:Nat}(r:Rw H l ps ms c)(s:Same H H'):Rw H' l ps ms c:=⟨s _ _ r.lst,r.mvs.same s,r.ok,r.len⟩
def spRunK (K:PySem.W.Frag):Sp:=fun vs H Q _=>∃ (l lr:Addr) (ps rp:List Addr) (f:Nat->A5) (c n M:Nat) (ms:List Gm),vs=[.ref l,.ref lr]/\Rw H lr rp ms c/\Bd5 K H l ps f c n M/\c<=6/\M<=300/\n<=210000 ∧
 ∀ (r:Addr) (H':Hp) (qs:List Addr) (g:Nat->A5),H r=none->Same H H'->Bd5 K H' r qs g c (n+1010*ms.length) (M+ms.length)->Steps c ms f g->Q (.ref r) H'
theorem sc_run:FnScope ["board","row","behind","move"] ["board","row"] (Z0i (top 67)):=fS
theorem X6y (F:FunAt K "run" (top 67) .none)(X:K.In h)(G:h.Ns mainGlobals mg)(B:Bs mg)(c_turned:Cal P w K mg base k "turned" ["board","move"] (Z9g K)):Cal P w K mg base (k+1) "run" ["board","row"] (spRunK K):=by
 have nd:=sc_run.nd
 refine F.cal X G sc_run (bnd2 fun _ _ _ _ _ _ _ _=>rfl) (fun vs H Q E h=>?_) (fun f cdv A outer s H vs Q E hr h=>?_)
 ·obtain⟨l,lr,ps,rp,f,c,n,M,ms,rfl,_⟩:=h;rfl
 obtain⟨l,lr,ps,rp,g,c,n,M,ms,rfl,RW,BD,c6,M3,n2,kq⟩:=h
 have l200:=RW.len
 have lps:=RW.mvs.length
 have SR:SqL K H lr (rp.map V.ref):=SqL.of RW.lst
 refine⟨_,(@Z0e _ _ _ _ _ (@Z0r _ _ 2 _ _ _ _ nd rfl (Or.inl rfl) (Z4f Z5y rfl B.list boot_list (Z0a (pv 0) Z0d)) rfl (.inl rfl))
  (@Z0e _ _ _ _ _ (Z1p PassesOwn.never rfl (Z1d (pv 1)) (Z0m (i:=3) nd rfl (Or.inl rfl))
   (@Z0g _ _ _ (@Z0r _ _ 2 _ _ _ _ nd rfl (Or.inl rfl) (Z0k c_turned hr rfl (Z0a (pv 2) (Z0a (pv 3) Z0d))) rfl (.inl rfl))))
  (@Z0g _ _ _ (Z0j (pv 2))))),?_⟩
 try dsimp only[cxK]
 refine⟨_,rfl,l,_,rfl,.inl (SqL.of BD.lst),fun b0 hb0=>?_⟩
 have s0:=Z0f hb0 (.lst (ps.map V.ref))
 refine⟨_,rfl,lr,rfl,⟨_,s0.seq SR⟩,Z2o (K:=K) (a:=lr) (xs:=rp.map V.ref) (fun i σ H'=>Same H H'/\∃ (b:Addr) (qs:List Addr) (y:Nat->A5) (v3:Option V),H b=none/\Bd5 K H' b qs y c (n+1010*i) (M+i)/\Steps c (ms.take i) g y/\σ=[some (.ref l),some (.ref lr),some (.ref b),v3])
  ⟨s0,b0,ps,g,none,hb0,⟨Z0c,BD.len,BD.vals.same s0,BD.ok⟩,by rw[List.take_zero];exact .nil,rfl⟩ (fun i σ H' _ e=>e.1.seq SR) ?_ ?_⟩
 ·rintro i x σ H1 hx ⟨S1,b,qs,y,v3,hb,B1,ST,rfl⟩
  have ilt:i<ms.length:=by
   have:=(List.getElem?_eq_some_iff.mp hx).1
   rw[List.length_map] at this
   omega
  rw[List.getElem?_map] at hx
  obtain⟨p,hp,rfl⟩:=Option.map_eq_some_iff.mp hx
  obtain⟨m,hm,p0⟩:=RW.mvs.get hp
  refine⟨_,rfl,_,rfl,b,p,qs,y,c,_,_,m,rfl,S1 _ _ p0,RW.ok m (List.mem_of_getElem? hm),B1,c6,by omega,by omega,fun r H2 rs z hr S2 B2 st=>?_⟩
  refine⟨S1.trans S2,r,rs,z,_,S1.free hr,⟨B2.lst,B2.len,B2.vals,fun j hj=>(B2.ok j hj).mono (by omega) (by omega)⟩,?_,rfl⟩
  rw[List.take_add_one,hm]
  exact ST.snoc st
 ·rintro σ H1 ⟨S1,b,qs,y,v3,hb,B1,ST,rfl⟩
  rw[List.length_map,lps] at B1 ST
  rw[List.take_length] at ST
  exact⟨_,rfl,kq b H1 qs y hb S1 B1 ST⟩
def Z8e:Sp:=fun vs H Q _=>∃ (cl:Int) (c:Nat),vs=[.int cl,.int c]/\1<=c/\c<=6/\∀ (r:Addr) (H':Hp) (nm:Str) (ns:List Int),Same H H'->H' r=some (MvT nm ns)->((nm="mix"/\∃ a:Nat,a<c/\ns=[(a:Int)])∨∃ v:Mv,v.Ok c/\nm=v.nm/\ns=v.ns)->Q (.ref r) H'
theorem pick {L:List Int}{i:Int}(h0:0<=i)(h1:i<L.length):∃ e∈L,atI (L.map V.int) i=some (.int e):=by
 refine⟨L.getD i.toNat 0,?_,X2u h0 h1⟩
 rw[List.getD_eq_getElem?_getD,List.getElem?_eq_getElem (by omega)]
 exact List.getElem_mem _
structure Rest (c:Nat) (no:List Nat) (R:List Int):Prop where
 only:∀ e∈R,∃ j:Nat,e=(j:Int)/\j<c/\j ∉ no
 all:∀ j:Nat,j<c->j ∉ no->(j:Int)∈R
 len:R.length<=6
theorem Rest.pos1 {c a:Nat}{R:List Int}(r:Rest c [a] R)(h:2<=c):0<R.length:=by
 by_cases e:a=0
 ·exact List.length_pos_of_mem (r.all 1 (by omega) (by simp;omega))
 ·exact List.length_pos_of_mem (r.all 0 (by omega) (by simp;omega))
theorem Rest.pos2 {c a b:Nat}{R:List Int}(r:Rest c [a,b] R)(h:3<=c):0<R.length:=by
 have:∃ j:Nat,j<3/\j≠a/\j≠b:=by
  by_cases h0:0≠a/\0≠b
  ·exact⟨0,by decide,h0.1,h0.2⟩
  ·by_cases h1:1≠a/\1≠b
   ·exact⟨1,by decide,h1.1,h1.2⟩
   ·exact⟨2,by decide,by omega,by omega⟩
 obtain⟨j,j3,ja,jb⟩:=this
 exact List.length_pos_of_mem (r.all j (by omega) (by simp;omega))
theorem Rest.filter {c a b:Nat}{R:List Int}(r:Rest c [a] R){p:Int->Bool}(hp:∀ e,p e=!decide (V.int e=V.int b)):Rest c [a,b] ((R.filter p).map id):=by
 rw[List.map_id]
 refine⟨fun e he=>?_,fun j hj hn=>?_,Nat.le_trans (List.length_filter_le _ _) r.len⟩
 ·obtain⟨h1,h2⟩:=List.mem_filter.mp he
  obtain⟨j,rfl,jc,ja⟩:=r.only e h1
  refine⟨j,rfl,jc,?_⟩
  rw[hp] at h2
  have h3:¬ (V.int (j:Int)=V.int (b:Int)):=by simpa using h2
  have h4:j≠b:=fun z=>h3 (by rw[z])
  have h5:j≠a:=by simpa using ja
  simp
  exact⟨h5,h4⟩
 ·simp at hn
  refine List.mem_filter.mpr ⟨r.all j hj (by simp;exact hn.1),?_⟩
  rw[hp,decide_eq_false (fun z=>hn.2 (by have:=V.int.inj z;omega))]
  rfl
theorem sc_moveby:FnScope ["_law_cell","_law_cells","_law_far","_law_kind","_law_a","_law_rest","_law_b"] ["_law_cell","_law_cells"] (Z0i (top 79)):=fS
theorem Y6v (F:FunAt K "_law_move_by" (top 79) .none)(X:K.In h)(G:h.Ns mainGlobals mg)(B:Bs mg):Cal P w K mg base (k+1) "_law_move_by" ["_law_cell","_law_cells"] Z8e:=by
 have nd:=sc_moveby.nd
 refine F.cal X G sc_moveby (bnd2 fun _ _ _ _ _ _ _ _=>rfl) (fun vs H Q E h=>?_) (fun f cdv A outer s H vs Q E hr h=>?_)
 ·obtain⟨cl,c,rfl,_⟩:=h;rfl
 obtain⟨cl,c,rfl,c1,c6,kq⟩:=h
 have cpos:(0:Int)<(c:Int):=by omega
 refine⟨_,(@Z1q _ _ _ _ _ (@Z0r _ _ 2 _ _ _ _ nd rfl (Or.inl rfl) (Z0h Z0u (Z0h Z2y (pv 0) Z0b) Z0b) rfl (.inl rfl))
  (@Z1q _ _ _ _ _ (@Z0r _ _ 3 _ _ _ _ nd rfl (Or.inl rfl) (Z0h Z0u (pv 2) Z0b) rfl (.inl rfl))
  (@Z1q _ _ _ _ _ (Z0y (PW.pt (Z3y (Z0o Z1u (pv 1) Z0b (nomark _)) (Z3w (PW.pt (Z6q (Z0o Z1u (pv 1) Z0b (nomark _)) (Z4q (Z0o Z1u (pv 3) Z0b (nomark _))))))))
   (@Z0g _ _ _ (@Z0r _ _ 3 _ _ _ _ nd rfl (Or.inl rfl) (Z0h Z0u (pv 3) Z0b) rfl (.inl rfl)))
   Z0p)
  (@Z1q _ _ _ _ _ (@Z0r _ _ 4 _ _ _ _ nd rfl (Or.inr rfl) (Z0h Z0u (Z0h Z1e (pv 2) Z0b) (pv 1)) rfl (.inl rfl))
  (@Z0e _ _ _ _ _ (Z0y (Z0o Z1u (pv 3) Z0b (nomark _))
   (@Z0g _ _ _ (Z0j (@Z0z _ _ _ _ _ (Z0a Z2b (Z0a (pv 4) (Z0a (Z0h Z1c Z0b (Z0h Z0u (Z0h Z1e (pv 2) Z0b) Z0b)) Z0d))))))
   Z0p)
  (@Z0e _ _ _ _ _ (Z0y (Z0o Z6u (pv 3) Z0b (nomark _))
   (@Z0g _ _ _ (Z0j (@Z0z _ _ _ _ _ (Z0a (Z0n Z1a (@Z3f _ _ _ _ (Z0a Z2b (Z0a Z2b Z0d))) (pv 3) (fun _ _=>rfl)) (Z0a (pv 4) Z0d)))))
   Z0p)
  (@Z1q _ _ _ _ _ (Z4z (i:=5) rfl nd rfl rfl (LcOk.of (Nc:=["_law_c","_law_a"]) (mp:=[none,some 4]) (by kernel_rfl)) (Z0w rfl B.range (Z0a (pv 1) Z0d)) (fun _ _ _ _=>(Z0m (i:=0) (show (["_law_c","_law_a"]:List Str).Nodup by decide +kernel) rfl (Or.inl rfl))) (fun _ _ _ _=>(Z0o Z5d (pv 0) (pv 1) (nomark _))) (fun _ _ _ _=>(pv 0)) rfl)
  (@Z1q _ _ _ _ _ (@Z0r _ _ 6 _ _ _ _ nd rfl (Or.inr rfl) (Z0n Z1a (pv 5) (Z0h Z0u (Z0h Z1e (pv 2) Z0b) (Z0q Z0v rfl B.len PySem.boot_len (Z0a (pv 5) Z0d))) (fun _ _=>rfl)) rfl (.inl rfl))
  (@Z0e _ _ _ _ _ (Z0y (Z0o Z6u (pv 3) Z0b (nomark _))
   (@Z0g _ _ _ (Z0j (@Z0z _ _ _ _ _ (Z0a (Z0n Z1a (@Z3f _ _ _ _ (Z0a Z2b (Z0a Z2b (Z0a Z2b Z0d)))) (Z0h Z1z (pv 3) Z0b) (fun _ _=>rfl)) (Z0a (pv 4) (Z0a (pv 6) Z0d))))))
   Z0p)
  (@Z1q _ _ _ _ _ (Z4z (i:=5) rfl nd rfl rfl (LcOk.of (Nc:=["_law_c","_law_b"]) (mp:=[none,some 6]) (by kernel_rfl)) (Z1d (pv 5)) (fun _ _ _ _=>(Z0m (i:=0) (show (["_law_c","_law_b"]:List Str).Nodup by decide +kernel) rfl (Or.inl rfl))) (fun _ _ _ _=>(Z0o Z5d (pv 0) (pv 1) (nomark _))) (fun _ _ _ _=>(pv 0)) rfl)
  (@Z0g _ _ _ (Z0j (@Z0z _ _ _ _ _ (Z0a Z2b (Z0a (pv 4) (Z0a (pv 6) (Z0a (Z0n Z1a (pv 5) (Z0h Z0u (Z0h Z1e (pv 2) Z0b) (Z0q Z0v rfl B.len PySem.boot_len (Z0a (pv 5) Z0d))) (fun _ _=>rfl)) Z0d))))))))))))))))),?_⟩
 try dsimp only[cxK]
 refine⟨fun σ H'=>H'=H/\∃ n:Nat,σ=[some (.int cl),some (.int c),some (.int n),none,none,none,none],?_,?_⟩
 ·refine⟨_,rfl,_,_,rfl,rfl,.inr ⟨by decide,by decide⟩,_,_,rfl,rfl,X3t,rfl,?_⟩
  have h0:=Int.emod_nonneg (cl*48271) (Int.ne_of_gt X3t)
  refine⟨(cl*48271%2147483647).toNat,?_⟩
  rw[Int.toNat_of_nonneg h0]
  rfl
 rintro σ1 H1 ⟨rfl,n,rfl⟩
 refine⟨fun σ H'=>H'=H1/\∃ t:Nat,t<7/\σ=[some (.int cl),some (.int c),some (.int n),some (.int t),none,none,none],?_,?_⟩
 ·refine⟨_,rfl,_,_,rfl,rfl,p_7,rfl,n%7,Nat.mod_lt _ (by decide),?_⟩
  rfl
 rintro σ2 H2 ⟨rfl,t,t7,rfl⟩
 refine⟨fun σ H'=>H'=H2/\∃ t:Nat,t<7/\(c=1->t<3)/\(c=2->t≠6)/\σ=[some (.int cl),some (.int c),some (.int n),some (.int t),none,none,none],?_,?_⟩
 ·have mod:∃ t':Nat,t'<7/\(c=1->t'<3)/\(c=2->t'≠6)/\[some (V.int cl),some (V.int c),some (V.int n),some (V.int ((t:Int)%3)),none,none,none]=[some (V.int cl),some (V.int c),some (V.int n),some (V.int t'),none,none,none]:=⟨t%3,by omega,by omega,by omega,rfl⟩
  refine⟨_,rfl,rfl,_,rfl,eqI (fun _=>?_) (fun hc1=>?_)⟩
  ·exact⟨_,rfl,_,_,rfl,rfl,p_3,rfl,mod⟩
  ·refine⟨_,rfl,rfl,_,rfl,eqI (fun _=>⟨_,rfl,rfl,_,rfl,eqI (fun _=>⟨_,rfl,_,_,rfl,rfl,p_3,rfl,mod⟩) (fun h6=>⟨rfl,t,t7,fun z=>absurd (by rw[z];rfl) hc1,fun _ z=>h6 (by rw[z];rfl),rfl⟩)⟩) (fun hc2=>⟨rfl,t,t7,fun z=>absurd (by rw[z];rfl) hc1,fun z=>absurd (by rw[z];rfl) hc2,rfl⟩)⟩
 rintro σ3 H3 ⟨rfl,t,t7,t1,t2',rfl⟩
 refine⟨fun σ H'=>H'=H3/\∃ a:Nat,a<c/\σ=[some (.int cl),some (.int c),some (.int n),some (.int t),some (.int a),none,none],?_,?_⟩
 ·refine⟨_,rfl,_,_,rfl,rfl,⟨by decide,by decide⟩,_,rfl,_,_,rfl,rfl,cpos,rfl,n / 7%c,Nat.mod_lt _ (by omega),?_⟩
  rfl
 rintro σ4 H4 ⟨rfl,a,ac,rfl⟩
 refine⟨_,rfl,rfl,_,rfl,eqI (fun _=>?_) (fun n2=>?_)⟩
 ·refine⟨_,rfl,_,rfl,_,_,rfl,rfl,⟨by decide,by decide⟩,_,_,rfl,rfl,p_7,_,_,rfl,rfl,t3,fun r hr=>?_⟩
  refine kq r _ "turn" [(a:Int),((1+n / 49%7:Nat):Int)] (Z0f hr _) ?_ (.inr ⟨.turn a (1+n / 49%7),⟨ac,by omega,by omega⟩,rfl,rfl⟩)
  rw[Z0c]
  rfl
 refine⟨_,rfl,_,_,rfl,rfl,_,rfl,decI (fun l2=>?_) (fun l2=>?_)⟩
 ·refine⟨t2,fun lq hlq=>?_⟩
  have s1:=Z0f hlq (.lst [.str "flip",.str "mix"])
  have tt:t=0∨t=1:=by omega
  rcases tt with rfl | rfl
  ·refine⟨_,rfl,lq,_,_,.str "flip",rfl,rfl,SqL.of Z0c,rfl,_,rfl,t2,fun r hr=>?_⟩
   exact kq r _ "flip" [(a:Int)] (s1.trans (Z0f hr _)) Z0c (.inr ⟨.flip a,ac,rfl,rfl⟩)
  ·refine⟨_,rfl,lq,_,_,.str "mix",rfl,rfl,SqL.of Z0c,rfl,_,rfl,t2,fun r hr=>?_⟩
   exact kq r _ "mix" [(a:Int)] (s1.trans (Z0f hr _)) Z0c (.inl ⟨rfl,a,ac,rfl⟩)
 have t3':3<=t:=by omega
 have c2:2<=c:=by omega
 refine⟨fun σ H'=>Same H4 H'/\∃ (l:Addr) (R:List Int),H' l=some (.lst (R.map V.int))/\Rest c [a] R/\σ=[some (.int cl),some (.int c),some (.int n),some (.int t),some (.int a),some (.ref l),none],?_,?_⟩
 ·refine⟨_,rfl,_,rfl,by omega,by omega,fun acc hacc=>?_⟩
  rw[Int.toNat_natCast]
  refine Z5h (n:=c) (fr:=[some (.int a)]) (fun i ys H'=>Same H4 H'/\H' acc=some (.lst ys)/\∃ R:List Int,ys=R.map V.int/\Rest i [a] R/\R.length<=i) (t64 (by omega)) ⟨Z0f hacc _,Z0c,[],rfl,⟨fun e he=>(nomatch he),fun j hj=>absurd hj (Nat.not_lt_zero _),by decide⟩,Nat.le_refl _⟩ ?_ (fun hm z=>?_) ?_
  ·rintro i ys H5 N hi hl ⟨S5,a5,R,rfl,RR,lR⟩ kN
   have z0:(0:Int)+(i:Int)=(i:Int):=Int.zero_add _
   refine⟨_,rfl,_,rfl,rfl,_,rfl,kN _ _ (fun hb=>?_) (fun hb=>?_)⟩
   ·have ne:i≠a:=fun z=>by
     subst z
     rw[z0,decide_eq_true rfl] at hb
     cases hb
    refine⟨_,rfl,a5,Z0s S5 hacc,Z0c,R++[(i:Int)],by rw[List.map_append,z0];rfl,⟨fun e he=>?_,fun j hj hn=>?_,by rw[List.length_append];simp;omega⟩,by rw[List.length_append];simp;omega⟩
    ·rcases List.mem_append.mp he with h | h
     ·obtain⟨j,e1,e2,e3⟩:=RR.only e h
      exact⟨j,e1,by omega,e3⟩
     ·exact⟨i,List.mem_singleton.mp h,by omega,by simp;exact ne⟩
    ·by_cases e:j=i
     ·rw[e];exact List.mem_append_right _ (List.mem_singleton.mpr rfl)
     ·exact List.mem_append_left _ (RR.all j (by omega) hn)
   ·have eq:i=a:=by
     rw[z0] at hb
     have:((i:Int))=(a:Int):=by
      have h2:decide (V.int (i:Int)=V.int (a:Int))=true:=by simpa using hb
      exact V.int.inj (of_decide_eq_true h2)
     omega
    exact⟨S5,a5,R,rfl,⟨fun e he=>by obtain⟨j,e1,e2,e3⟩:=RR.only e he;exact⟨j,e1,by omega,e3⟩,fun j hj hn=>RR.all j (by have:j≠i:=(fun z=>hn (by simp;omega));omega) hn,RR.len⟩,by omega⟩
  ·obtain⟨v,e,z⟩:=z
   exact⟨v,e,hm _ _ z⟩
  ·rintro ys H5 ⟨S5,a5,R,rfl,RR,lR⟩
   exact⟨S5,acc,R,a5,RR,rfl⟩
 rintro σ5 H5 ⟨S5,l,R,hl,RR,rfl⟩
 have posR:=RR.pos1 c2
 have SL:SqL K H5 l (R.map V.int):=SqL.of hl
 have lenR:(R.map V.int).length=R.length:=List.length_map _
 refine⟨fun σ H'=>H'=H5/\∃ b:Nat,b<c/\b≠a/\σ=[some (.int cl),some (.int c),some (.int n),some (.int t),some (.int a),some (.ref l),some (.int b)],?_,?_⟩
 ·obtain⟨e,he,ae⟩:=pick (L:=R) (i:=((n:Int) / 49)%((R.map V.int).length:Int)) (Int.emod_nonneg _ (by rw[lenR];omega)) (by rw[lenR];exact Int.emod_lt_of_pos _ (by omega))
  obtain⟨b,rfl,bc,ba⟩:=RR.only e he
  refine⟨_,rfl,_,rfl,_,_,rfl,rfl,⟨by decide,by decide⟩,_,rfl,l,_,rfl,.inl SL,_,_,rfl,rfl,(by rw[lenR];omega),l,_,_,_,rfl,rfl,SL,ae,rfl,b,bc,by simpa using ba,rfl⟩
 rintro σ6 H6 ⟨rfl,b,bc,ba,rfl⟩
 refine⟨_,rfl,_,_,rfl,rfl,_,rfl,decI (fun l6=>?_) (fun l6=>?_)⟩
 ·refine⟨t3,fun lq hlq=>?_⟩
  have s1:=Z0f hlq (.lst [.str "if",.str "pair",.str "swap"])
  have tt:t=3∨t=4∨t=5:=by omega
  rcases tt with rfl | rfl | rfl
  ·refine⟨_,rfl,_,_,rfl,rfl,lq,_,_,.str "if",rfl,rfl,SqL.of Z0c,rfl,_,rfl,_,rfl,t3,fun r hr=>?_⟩
   exact kq r _ "if" [(a:Int),(b:Int)] ((S5.trans s1).trans (Z0f hr _)) Z0c (.inr ⟨.iff a b,⟨ac,bc,Ne.symm ba⟩,rfl,rfl⟩)
  ·refine⟨_,rfl,_,_,rfl,rfl,lq,_,_,.str "pair",rfl,rfl,SqL.of Z0c,rfl,_,rfl,_,rfl,t3,fun r hr=>?_⟩
   exact kq r _ "pair" [(a:Int),(b:Int)] ((S5.trans s1).trans (Z0f hr _)) Z0c (.inr ⟨.pair a b,⟨ac,bc,Ne.symm ba⟩,rfl,rfl⟩)
  ·refine⟨_,rfl,_,_,rfl,rfl,lq,_,_,.str "swap",rfl,rfl,SqL.of Z0c,rfl,_,rfl,_,rfl,t3,fun r hr=>?_⟩
   exact kq r _ "swap" [(a:Int),(b:Int)] ((S5.trans s1).trans (Z0f hr _)) Z0c (.inr ⟨.swap a b,⟨ac,bc,Ne.symm ba⟩,rfl,rfl⟩)
 have c3:3<=c:=by omega
 refine⟨fun σ H'=>Same H6 H'/\∃ (l:Addr) (R:List Int),H' l=some (.lst (R.map V.int))/\Rest c [a,b] R/\σ=[some (.int cl),some (.int c),some (.int n),some (.int t),some (.int a),some (.ref l),some (.int b)],?_,?_⟩
 ·refine⟨_,rfl,l,rfl,⟨_,SL⟩,fun acc hacc=>?_⟩
  have lr:=RR.len
  refine Z8o (K:=K) (l:=l) (ns:=R) (fr:=[some (.int b)]) (fun e=>!decide (V.int e=V.int b)) id (t64 (by omega)) hacc SL (fun e H7 N he S7 kN=>⟨_,rfl,_,rfl,rfl,_,rfl,kN⟩) (fun e H7 N he hp S7 kN=>⟨_,rfl,kN⟩) (fun H7 S7 a7=>?_)
  exact⟨S7,acc,_,a7,RR.filter fun _=>rfl,rfl⟩
 rintro σ7 H7 ⟨S7,l2,R2,hl2,RR2,rfl⟩
 have posR2:=RR2.pos2 c3
 have SL2:SqL K H7 l2 (R2.map V.int):=SqL.of hl2
 have lenR2:(R2.map V.int).length=R2.length:=List.length_map _
 obtain⟨e,he,ae⟩:=pick (L:=R2) (i:=((n:Int) / 343)%((R2.map V.int).length:Int)) (Int.emod_nonneg _ (by rw[lenR2];omega)) (by rw[lenR2];exact Int.emod_lt_of_pos _ (by omega))
 obtain⟨d,rfl,dc,dn⟩:=RR2.only e he
 have dn':d≠a/\d≠b:=by simpa using dn
 refine⟨_,rfl,_,rfl,_,rfl,_,rfl,_,_,rfl,rfl,⟨by decide,by decide⟩,_,rfl,l2,_,rfl,.inl SL2,_,_,rfl,rfl,(by rw[lenR2];omega),l2,_,_,_,rfl,rfl,SL2,ae,t4,fun r hr=>?_⟩
 exact kq r _ "cross" [(a:Int),(b:Int),(d:Int)] ((S5.trans S7).trans (Z0f hr _)) Z0c (.inr ⟨.cross a b d,⟨ac,bc,dc,Ne.symm ba,Ne.symm dn'.1,Ne.symm dn'.2⟩,rfl,rfl⟩)
theorem X1r:((List.range 7).all fun c=>(List.range (2^c)).all fun x=>decide (Builtin.Int.intBits ((x:Nat):Int)<=c))=true:=by decide +kernel
theorem X5s {c x:Nat}(h:c<=6)(hx:x<2^c):Builtin.Int.intBits ((x:Nat):Int)<=c:=of_decide_eq_true (get1 (get1 X1r (by omega:c<7)) hx)
def spWord:Sp:=fun vs H Q _=>∃ x c:Nat,vs=[.int x,.int c]/\c<=6/\x<2^c/\Q (.bl true) H
def st (x w:Nat):A5:=if w=x then ((1,0,0,0),0) else ((0,0,0,0),0)
theorem X6n (x w:Nat):Ok5 100 40 (st x w):=by
 unfold st
 split
 ·exact⟨⟨s_1,s_0,s_0,s_0⟩,⟨Int.le_refl 0,.inl rfl⟩,forty⟩
 ·exact⟨⟨s_0,s_0,s_0,s_0⟩,⟨Int.le_refl 0,.inl rfl⟩,forty⟩
def Y5p (K:PySem.W.Frag):Sp:=fun vs H Q _=>∃ c x:Nat,vs=[.int c,.int x]/\1<=c/\c<=6/\x<2^c/\∀ (r:Addr) (H':Hp) (qs:List Addr),H r=none->Same H H'->Bd5 K H' r qs (st x) c 100 40->Q (.ref r) H'
theorem sc_isword:FnScope ["thing","cells"] ["thing","cells"] (Z0i (top 17)):=fS
theorem Z6w (F:FunAt K "is_word" (top 17) .none)(X:K.In h)(G:h.Ns mainGlobals mg)(c_is_whole:Cal P w K mg base k "is_whole" ["thing"] Z3d):Cal P w K mg base (k+1) "is_word" ["thing","cells"] spWord:=by
 have nd:=sc_isword.nd
 refine F.cal X G sc_isword (bnd2 fun _ _ _ _ _ _ _ _=>rfl) (fun vs H Q E h=>?_) (fun f cdv A outer s H vs Q E hr h=>?_)
 ·obtain⟨x,N,rfl,_⟩:=h;rfl
 obtain⟨x,N,rfl,c6,lt,q⟩:=h
 refine⟨_,(@Z0e _ _ _ _ _ (Z0y (Z2f (PW.pt (Z6q (Z1l (Z0k c_is_whole hr rfl (Z0a (pv 0) Z0d))) (Z4q (Z1l (Z0k c_is_whole hr rfl (Z0a (pv 1) Z0d)))))))
   (@Z0g _ _ _ (Z0j Z2w))
   Z0p)
  (@Z0g _ _ _ (Z0j (Z5c (Z1n Y4o (pv 0) Z0b (nomark _)) (Z3x (Z1n X3x (Z5b PySem.F.plainAttrs_int PySem.F.slot_int_bit_length PySem.F.type_int_bit_length Z2l (pv 0)) (pv 1) (nomark _))))))),?_⟩
 try dsimp only[cxK]
 refine⟨_,rfl,_,rfl,_,rfl,iteT ⟨_,rfl,_,rfl,_,rfl,iteF ?_⟩⟩
 refine⟨_,rfl,_,_,rfl,rfl,_,rfl,decI (fun _=>?_) (fun z=>absurd (show (x:Int)>=0 by omega) z)⟩
 refine⟨_,rfl,rfl,_,rfl,rfl,_,rfl,_,_,rfl,rfl,?_⟩
 have b:=X5s c6 lt
 show Q (.bl (decide (((Builtin.Int.intBits ((x:Nat):Int):Nat):Int)<=(N:Int)))) H
 rw[decide_eq_true (by omega)]
 exact q
def Y5y:Sp:=fun vs H Q _=>∃ c x:Nat,vs=[.int c,.int x]/\1<=c/\c<=6/\x<2^c/\Q .non H
theorem sc_begin:FnScope ["cells","word"] ["cells","word"] (Z0i (top 28)):=fS
theorem X0r {tM:Tok}(gM:mg "MOST_CELLS"=some (.int 6 tM))(F:FunAt K "check_beginning" (top 28) .none)(X:K.In h)(G:h.Ns mainGlobals mg)(c_is_whole:Cal P w K mg base k "is_whole" ["thing"] Z3d)(c_is_word:Cal P w K mg base k "is_word" ["thing","cells"] spWord):Cal P w K mg base (k+1) "check_beginning" ["cells","word"] Y5y:=by
 have nd:=sc_begin.nd
 refine F.cal X G sc_begin (bnd2 fun _ _ _ _ _ _ _ _=>rfl) (fun vs H Q E h=>?_) (fun f cdv A outer s H vs Q E hr h=>?_)
 ·obtain⟨c,x,rfl,_⟩:=h;rfl
 obtain⟨c,x,rfl,c1,c6,xc,kq⟩:=h
 refine⟨_,(@Z0e _ _ _ _ _ (Z0y (PW.pt (Z3y (Z2f (Z1l (Z0k c_is_whole hr rfl (Z0a (pv 0) Z0d)))) (Z3y (Z0o Z6u (pv 0) Z0b (nomark _)) (Z3w (Z0o Z9w (pv 0) (Z3g (v:=.int 6) rfl gM ⟨tM,rfl⟩) (nomark _))))))
   (@Z0g _ _ _ Z3q)
   Z0p)
  (@Z0g _ _ _ (Z0y (Z2f (Z1l (Z0k c_is_word hr rfl (Z0a (pv 1) (Z0a (pv 0) Z0d)))))
   (@Z0g _ _ _ Z3q)
   Z0p))),?_⟩
 try dsimp only[cxK]
 refine⟨_,rfl,_,rfl,_,rfl,iteF ⟨_,rfl,_,_,rfl,rfl,_,rfl,decI (fun z=>absurd z (by omega)) (fun _=>⟨_,rfl,_,_,rfl,rfl,_,rfl,decI (fun z=>absurd z (by omega)) (fun _=>?_)⟩)⟩⟩
 exact⟨_,rfl,_,rfl,x,c,rfl,c6,xc,_,rfl,iteF kq⟩
theorem sc_start:FnScope ["cells","word"] ["cells","word"] (Z0i (top 27)):=fS
theorem Y1w {D:Addr}{oc:Value}{od:Option Addr}{n:Nat}{sl:Array (Option Value)}{t0:Tok}(l:K.lookup D=some ⟨oc,od,.seq #[.int 0 t0] n,sl⟩):Z2v K "start" (top 27) (.ref D) ["cells","word"]:=by
 intro kV doc pm an cdv ct s us X hl
 match us,hl with
 | [a,b],_=>exact BindsTo.of_defaults rfl (X _ _ l) rfl rfl rfl
theorem X0e {dV:Value}(F:FunAt K "start" (top 27) dV)(bi:Z2v K "start" (top 27) dV ["cells","word"])(X:K.In h)(G:h.Ns mainGlobals mg)(B:Bs mg){aO aZ:Addr}(gO:mg "ONE"=some (.ref aO))(gZ:mg "NOUGHT"=some (.ref aZ))(kO:∀ H,At5 K H aO ((1,0,0,0),0))(kZ:∀ H,At5 K H aZ ((0,0,0,0),0))
  (c_check_beginning:Cal P w K mg base k "check_beginning" ["cells","word"] Y5y):Cal P w K mg base (k+1) "start" ["cells","word"] (Y5p K):=by
 have nd:=sc_start.nd
 refine F.cal X G sc_start bi (fun vs H Q E h=>?_) (fun f cdv A outer s H vs Q E hr h=>?_)
 ·obtain⟨c,x,rfl,_⟩:=h;rfl
 obtain⟨c,x,rfl,c1,c6,xc,kq⟩:=h
 have p6:=pow6 c6
 have hN:(1:Int)*2^((c:Int).toNat)=((2^c:Nat):Int):=ipow c
 have hM:(1*2^((c:Int).toNat):Int).toNat=2^c:=by rw[hN,Int.toNat_natCast]
 refine⟨_,(@Z0e _ _ _ _ _ (Z3i (Z0k c_check_beginning hr rfl (Z0a (pv 0) (Z0a (pv 1) Z0d))))
  (@Z0g _ _ _ (Z0j (Z3k rfl (LcOk.of (Nc:=["place","word"]) (mp:=[none,some 1]) (by kernel_rfl)) (Z0w rfl B.range (Z0a (Z0h Z1r Z0b (pv 0)) Z0d)) (fun _ _ _ _=>(Z0m (i:=0) (show (["place","word"]:List Str).Nodup by decide +kernel) rfl (Or.inl rfl))) (fun _ _ _ _=>(Z5a (Z0o Z1u (pv 0) (pv 1) (nomark _)) (Z3g (v:=.ref aO) rfl gO rfl) (Z3g (v:=.ref aZ) rfl gZ rfl))))))),?_⟩
 try dsimp only[cxK]
 refine⟨_,rfl,_,rfl,c,x,rfl,c1,c6,xc,?_⟩
 refine⟨_,rfl,_,_,rfl,rfl,⟨1,sz1,by omega,by omega⟩,_,rfl,by rw[hN];omega,by rw[hN];omega,fun acc hacc=>?_⟩
 rw[hM]
 refine Z3s (n:=2^c) (fr:=[some (.int x)]) (fun i ys H'=>∃ qs:List Addr,Same H H'/\H' acc=some (.lst ys)/\ys=qs.map V.ref/\qs.length=i/\ValsK K H' qs (st x)) (t64 p6)
  ⟨[],Z0f hacc _,Z0c,rfl,rfl,(fun _ _ z=>by cases z)⟩ ?_ ?_
 ·rintro i ys H2 N hi hy ⟨qs,S2,a2,rfl,ql,v2⟩ kN
  have fin:∀ (r:Addr),At5 K H2 r (st x i)->N (.ref r) H2:=fun r hr=>by
   refine kN (.ref r) H2 a2 ⟨qs++[r],Z0s S2 hacc,Z0c,by rw[List.map_append];rfl,by simp[ql],?_⟩
   have:=Z2t (ys:=qs.map V.ref++[.ref r]) (xs:=qs.map V.ref) (Z3c v2 (Same.refl _) hr) a2
   intro j p hj
   have q:=this j p hj
   have e:(if j=qs.length then st x i else st x j)=st x j:=by
    by_cases e:j=qs.length
    ·rw[if_pos e,e,ql]
    ·rw[if_neg e]
   rw[<-e]
   exact q
  refine⟨_,rfl,_,rfl,rfl,_,rfl,eqI (fun e=>fin aO ?_) (fun e=>fin aZ ?_)⟩
  ·have:st x i=((1,0,0,0),0):=by unfold st;rw[if_pos (by omega)]
   rw[this];exact kO _
  ·have:st x i=((0,0,0,0),0):=by unfold st;rw[if_neg (by omega)]
   rw[this];exact kZ _
 ·rintro ys H2 hy ⟨qs,S2,a2,rfl,ql,v2⟩
  exact kq acc H2 qs hacc S2 ⟨a2,ql,v2,fun i _=>X6n x i⟩
end
end K62
namespace K62.V
open PySem PySem.Spec PyProof.Rows L2 Am Pc Ba
section
variable {P:Program}{w:World}{K:PySem.W.Frag}{mg:Str->Option Value}{base:Heap}{k:Nat}{h:Heap}
theorem Z2d {x:Int}(h1:-16<x)(h2:x<16):Sz 100 x:=Sz.mono (j:=5) (by unfold Sz;omega) (by decide)
theorem s_0:Sz 100 0:=Z2d (by decide) (by decide)
theorem s_1:Sz 100 1:=Z2d (by decide) (by decide)
theorem s_m:Sz 100 (-1):=Z2d (by decide) (by decide)
theorem forty:(0:Int)<=40:=by decide
theorem ten29:(0:Int)<10^(29:Int).toNat:=by decide +kernel
theorem X8m {x:Int}:Sz 100 (x%10^(29:Int).toNat-10^(29:Int).toNat / 2):=by
 have h1:=Int.emod_nonneg x (Int.ne_of_gt ten29)
 have h2:=Int.emod_lt_of_pos x ten29
 have h3:(10:Int)^(29:Int).toNat<2^100:=by decide +kernel
 generalize x%10^(29:Int).toNat=y at *
 generalize (10:Int)^(29:Int).toNat=t at *
 unfold Sz
 omega
theorem sc_amtby:FnScope ["_law_cell","_law_far","_law_size","_law_parts","_law_k","_law_half"] ["_law_cell"] (Z0i (top 74)):=fS
theorem X0t (F:FunAt K "_law_amount_by" (top 74) .none)(X:K.In h)(G:h.Ns mainGlobals mg)(B:Bs mg)(c__law_low:Cal P w K mg base k "_law_low" ["_law_parts","_law_h"] spLow)(c__law_spin:Cal P w K mg base k "_law_spin" ["_law_one","_law_k"] spSpin) :
  Cal P w K mg base (k+1) "_law_amount_by" ["_law_cell"] Y0z:=by
 have nd:=sc_amtby.nd
 refine F.cal X G sc_amtby (bnd1 fun _ _ _ _ _ _ _=>rfl) (fun vs H Q E h=>?_) (fun f cdv A outer s H vs Q E hr h=>?_)
 ·obtain⟨c,rfl,_⟩:=h;rfl
 obtain⟨c,rfl,szc,q⟩:=h
 refine⟨_,(@Z1q _ _ _ _ _ (@Z0r _ _ 1 _ _ _ _ nd rfl (Or.inl rfl) (Z0h Z0u (Z0h Z1c (Z0h Z4r (Z0h Z1e (pv 0) Z0b) (Z0h Z9u Z0b Z0b)) (Z0h Z9u Z0b Z0b)) (Z0h Z4r (Z0h Z9u Z0b Z0b) (Z0h Z9u Z0b Z0b))) rfl (.inl rfl))
  (@Z0e _ _ _ _ _ (@Z0r _ _ 2 _ _ _ _ nd rfl (Or.inl rfl) (Z0h Z9u Z0b Z0b) rfl (.inl rfl))
  (@Z0e _ _ _ _ _ (Z0y (Z0o Z1u (Z0h Z0u (pv 0) Z0b) Z0b (nomark _))
   (@Z0g _ _ _ (Z0j (Z0k c__law_spin hr rfl (Z0a (@Z0z _ _ _ _ _ (Z0a Z0b (Z0a Z0b (Z0a Z0b (Z0a Z0b (Z0a Z0b Z0d)))))) (Z0a (Z0h Z0u (pv 1) Z0b) Z0d)))))
   Z0p)
  (@Z0e _ _ _ _ _ (Z0y (Z0o Z1u (Z0h Z0u (pv 0) Z0b) Z0b (nomark _))
   (@Z0e _ _ _ _ _ (@Z0r _ _ 3 _ _ _ _ nd rfl (Or.inl rfl) (@Z3f _ _ _ _ (Z0a (Z0h Z1z (Z0h Z0u (pv 1) Z0b) Z0b) (Z0a (Z0h Z1z (Z0h Z0u (Z0h Z1e (pv 1) Z0b) Z0b) Z0b) (Z0a (Z0h Z1z (Z0h Z0u (Z0h Z1e (pv 1) Z0b) Z0b) Z0b) (Z0a (Z0h Z1z (Z0h Z0u (Z0h Z1e (pv 1) Z0b) Z0b) Z0b) Z0d))))) rfl (.inl rfl))
   (@Z0g _ _ _ (Z0j (Z0k c__law_low hr rfl (Z0a (pv 3) (Z0a (Z0h Z0u (Z0h Z1e (pv 1) Z0b) Z0b) Z0d))))))
   Z0p)
  (@Z0e _ _ _ _ _ (Z0y (Z0o Z1u (Z0h Z0u (pv 0) Z0b) Z0b (nomark _))
   (@Z0e _ _ _ _ _ (@Z0r _ _ 3 _ _ _ _ nd rfl (Or.inl rfl) (@Z3f _ _ _ _ Z0d) rfl (.inl rfl))
   (@Z0e _ _ _ _ _ (Z1p PassesOwn.never rfl (Z0w rfl B.range (Z0a Z0b Z0d)) (Z0m (i:=4) nd rfl (Or.inl rfl))
    (@Z0e _ _ _ _ _ (Z3i (Y1d PySem.F.plainAttrs_list PySem.F.slot_list_append PySem.F.type_list_append Z2m (pv 3) (Z0a (Z0h Z1z (Z0h Z0u (pv 1) (pv 2)) (Z0h Z1e (pv 2) Z0b)) Z0d)))
    (@Z0g _ _ _ (@Z0r _ _ 1 _ _ _ _ nd rfl (Or.inl rfl) (Z0h Z5e (pv 1) (pv 2)) rfl (.inl rfl)))))
   (@Z0g _ _ _ (Z0j (Z0k c__law_low hr rfl (Z0a (pv 3) (Z0a (Z0h Z0u (pv 1) Z0b) Z0d)))))))
   Z0p)
  (@Z0e _ _ _ _ _ (Z0y (Z0o Z1u (Z0h Z0u (pv 0) Z0b) Z0b (nomark _))
   (@Z0e _ _ _ _ _ (@Z0r _ _ 5 _ _ _ _ nd rfl (Or.inl rfl) (Z0h Z0u (pv 1) Z0b) rfl (.inl rfl))
   (@Z0g _ _ _ (Z0j (Z0k c__law_spin hr rfl (Z0a (Z0n Z1a (@Z3f _ _ _ _ (Z0a (@Z0z _ _ _ _ _ (Z0a Z0b (Z0a Z0b (Z0a Z0b (Z0a Z0b (Z0a (pv 5) Z0d)))))) (Z0a (@Z0z _ _ _ _ _ (Z0a Z0b (Z0a Z0b (Z0a Z0b (Z0a (Y4n Z7i Z0b) (Z0a (Z0h Z1c (pv 5) Z0b) Z0d)))))) Z0d))) (Z0h Z0u (Z0h Z1e (pv 1) Z0b) Z0b) (fun _ _=>rfl)) (Z0a (Z0h Z0u (Z0h Z1e (pv 1) Z0b) Z0b) Z0d))))))
   Z0p)
  (@Z0e _ _ _ _ _ (Z0y (Z0o Z1u (Z0h Z0u (pv 0) Z0b) Z0b (nomark _))
   (@Z0g _ _ _ (Z0j (@Z0z _ _ _ _ _ (Z0a (Z0h Z1z (Z0h Z0u (pv 1) Z0b) Z0b) (Z0a Z0b (Z0a (Z0h Z1z (Z0h Z0u (Z0h Z1e (pv 1) Z0b) Z0b) Z0b) (Z0a Z0b (Z0a Z0b Z0d))))))))
   Z0p)
  (@Z0g _ _ _ (Z0j (@Z0z _ _ _ _ _ (Z0a Z0b (Z0a Z0b (Z0a Z0b (Z0a Z0b (Z0a Z0b Z0d))))))))))))))),?_⟩
 try dsimp only[cxK]
 have pM:(0:Int)<10^(60:Int).toNat*10^(60:Int).toNat:=by decide +kernel
 have szc6:Sz 1048600 (c / 6):=szc.le (by omega)
 have s63:Sz 400 ((63:Int)^(64:Int).toNat):=by decide +kernel
 have s60:Sz 200 ((10:Int)^(60:Int).toNat):=by decide +kernel
 refine⟨fun σ' H'=>H'=H/\∃ F:Int,0<=F/\σ'=[some (.int c),some (.int F),none,none,none,none],?_,?_⟩
 ·exact⟨_,rfl,_,_,rfl,rfl,⟨by decide,by decide⟩,_,_,rfl,rfl,⟨by decide,by decide,by decide⟩,_,_,rfl,rfl,⟨1048600,400,szc6,s63,by decide⟩,_,_,rfl,rfl,⟨by decide,by decide,by decide⟩,_,_,rfl,rfl,_,_,rfl,rfl,⟨by decide,by decide,by decide⟩,_,_,rfl,rfl,⟨by decide,by decide,by decide⟩,_,_,rfl,rfl,⟨200,200,s60,s60,by decide⟩,_,_,rfl,rfl,pM,rfl,_,Int.emod_nonneg _ (Int.ne_of_gt pM),rfl⟩
 rintro σ1 H1 ⟨rfl,F,F0,rfl⟩
 refine⟨_,_,rfl,rfl,⟨by decide,by decide,by decide⟩,?_⟩
 have one:Ok5 100 40 ((1,0,0,0),0):=⟨⟨s_1,s_0,s_0,s_0⟩,⟨Int.le_refl 0,.inl rfl⟩,forty⟩
 refine⟨_,rfl,_,_,rfl,rfl,p_6,rfl,_,rfl,eqI (fun _=>?_) (fun _=>?_)⟩
 ·exact⟨t5,fun t ht=>⟨_,rfl,_,_,rfl,rfl,p_8,t,((1,0,0,0),0),_,rfl,Z0c,fun r H' s' e'=>q r H' _ ((Z0f ht _).trans s') e' (Z9x one _)⟩⟩
 refine⟨_,rfl,_,_,rfl,rfl,p_6,rfl,_,rfl,eqI (fun _=>?_) (fun _=>?_)⟩
 ·refine⟨_,rfl,_,_,rfl,rfl,p_7,_,_,rfl,rfl,_,rfl,_,_,rfl,rfl,⟨by decide,by decide⟩,_,_,rfl,rfl,p_7,_,_,rfl,rfl,_,rfl,_,_,rfl,rfl,⟨by decide,by decide⟩,_,_,rfl,rfl,p_7,_,_,rfl,rfl,_,rfl,_,_,rfl,rfl,⟨by decide,by decide⟩,_,_,rfl,rfl,p_7,_,_,rfl,rfl,t4,fun l hl=>?_⟩
  refine⟨_,rfl,_,rfl,_,_,rfl,rfl,⟨by decide,by decide⟩,_,_,rfl,rfl,p_4,l,_,_,_,_,_,rfl,Z0c,(by show 0<=F / 2401%4;omega),fun p H' x y z u g s' e' r'=>q p H' ((x,y,z,u),g) ((Z0f hl _).trans s') e' ⟨r'.sz ⟨?_,?_,?_,?_⟩,r'.amt,?_⟩⟩
  ·show Sz 100 (F%7-3)
   exact Z2d (by omega) (by omega)
  ·show Sz 100 (F / 7%7-3)
   exact Z2d (by omega) (by omega)
  ·show Sz 100 (F / 49%7-3)
   exact Z2d (by omega) (by omega)
  ·show Sz 100 (F / 343%7-3)
   exact Z2d (by omega) (by omega)
  ·have:=r'.le
   have h2:g<=F / 2401%4:=this
   show g<=40
   omega
 refine⟨_,rfl,_,_,rfl,rfl,p_6,rfl,_,rfl,eqI (fun _=>?_) (fun _=>?_)⟩
 ·refine⟨Nat.zero_le _,fun l hl=>?_⟩
  refine⟨4,rfl,by decide,by decide,Z1i (n:=4) (fun i σ H'=>∃ (xs:List Int) (g:Int) (v4:Option V),xs.length=i/\(∀ x∈xs,Sz 100 x)/\0<=g/\Same H1 H'/\H' l=some (.lst (xs.map V.int))/\σ=[some (.int c),some (.int g),some (.int (10^(29:Int).toNat)),some (.ref l),v4,none]) ⟨[],F,_,rfl,(fun _ z=>by cases z),F0,Z0f hl _,Z0c,rfl⟩ ?_ ?_⟩
  ·rintro i σ H' hi ⟨xs,g,v4,hx,hz,g0,S',hl',rfl⟩
   refine⟨_,rfl,.inl ⟨rfl,_,SqL.of hl'⟩,_,rfl,_,rfl,_,_,rfl,rfl,ten29,_,rfl,_,_,rfl,rfl,⟨by decide,by decide⟩,_,_,rfl,rfl,l,_,_,rfl,rfl,hl',(by rw[List.length_map,hx];exact Nat.lt_of_lt_of_le hi t4),?_⟩
   refine⟨_,rfl,_,rfl,_,_,rfl,rfl,⟨Int.ne_of_gt ten29,by decide +kernel⟩,⟨xs++[g%10^(29:Int).toNat-10^(29:Int).toNat / 2],g.fdiv (10^(29:Int).toNat),some (.int (0+i)),by simp[hx],?_,Int.fdiv_nonneg g0 (Int.le_of_lt ten29),Z0s S' hl,?_,rfl⟩⟩
   ·intro x hx'
    rcases List.mem_append.mp hx' with z | z
    ·exact hz x z
    ·rw[List.mem_singleton.mp z];exact X8m
   ·rw[Z0c,List.map_append];rfl
  ·rintro σ H' ⟨xs,g,v4,hx,hz,g0,S',hl',rfl⟩
   obtain⟨x1,x2,x3,x4,rfl⟩:∃ x1 x2 x3 x4,xs=[x1,x2,x3,x4]:=by
    match xs,hx with
    | [x1,x2,x3,x4],_=>exact⟨x1,x2,x3,x4,rfl⟩
   refine⟨_,rfl,_,rfl,_,_,rfl,rfl,p_40,l,x1,x2,x3,x4,_,rfl,hl',(by show 0<=g%40;omega),fun p H2 x y z u m s' e' r'=>q p H2 ((x,y,z,u),m) (S'.trans s') e' ⟨r'.sz ⟨hz _ (by simp),hz _ (by simp),hz _ (by simp),hz _ (by simp)⟩,r'.amt,?_⟩⟩
   have h2:m<=g%40:=r'.le
   show m<=40
   omega
 refine⟨_,rfl,_,_,rfl,rfl,p_6,rfl,_,rfl,eqI (fun _=>?_) (fun _=>?_)⟩
 ·refine⟨_,rfl,_,_,rfl,rfl,p_6,?_⟩
  refine⟨_,rfl,t5,fun r1 h1=>?_⟩
  refine⟨_,rfl,_,rfl,_,_,rfl,rfl,t5,fun r2 h2=>⟨t2,fun l hl=>?_⟩⟩
  have f0:0<=F%6/\F%6<6:=by omega
  have z2:=Z0f h2 (tA ((0,1,0,-1),F%6+1))
  have z3:=Z0f hl (.lst [.ref r1,.ref r2])
  have Y:=(Z0f h1 (tA ((1,0,0,0),F%6))).trans (z2.trans z3)
  have e1:=z3 _ _ (z2 _ _ (Z0c (H:=H1) (a:=r1) (o:=tA ((1,0,0,0),F%6))))
  have e2:=z3 _ _ (Z0c (H:=upd H1 r1 (tA ((1,0,0,0),F%6))) (a:=r2) (o:=tA ((0,1,0,-1),F%6+1)))
  have o1:Ok5 100 40 ((1,0,0,0),F%6):=⟨one.sz,⟨f0.1,.inr (.inl rfl)⟩,by show F%6<=40;omega⟩
  have o2:Ok5 100 40 ((0,1,0,-1),F%6+1):=⟨⟨s_0,s_1,s_0,s_m⟩,⟨by show 0<=F%6+1;omega,.inr (.inr (.inl rfl))⟩,by show F%6+1<=40;omega⟩
  have cc:F / 6%2=0∨F / 6%2=1:=by omega
  rcases cc with cc | cc
  ·exact⟨_,rfl,_,_,rfl,rfl,⟨by decide,by decide⟩,_,_,rfl,rfl,p_2,l,[.ref r1,.ref r2],_,.ref r1,rfl,rfl,SqL.of Z0c,(by show atI _ (F / 6%2)=_;rw[cc];rfl),_,rfl,_,_,rfl,rfl,⟨by decide,by decide⟩,_,_,rfl,rfl,p_8,r1,_,_,rfl,e1,fun r H' s' e'=>q r H' _ (Y.trans s') e' (Z9x o1 _)⟩
  ·exact⟨_,rfl,_,_,rfl,rfl,⟨by decide,by decide⟩,_,_,rfl,rfl,p_2,l,[.ref r1,.ref r2],_,.ref r2,rfl,rfl,SqL.of Z0c,(by show atI _ (F / 6%2)=_;rw[cc];rfl),_,rfl,_,_,rfl,rfl,⟨by decide,by decide⟩,_,_,rfl,rfl,p_8,r2,_,_,rfl,e2,fun r H' s' e'=>q r H' _ (Y.trans s') e' (Z9x o2 _)⟩
 refine⟨_,rfl,_,_,rfl,rfl,p_6,rfl,_,rfl,eqI (fun _=>?_) (fun _=>?_)⟩
 ·refine⟨_,rfl,_,_,rfl,rfl,p_11,_,_,rfl,rfl,_,rfl,_,_,rfl,rfl,⟨by decide,by decide⟩,_,_,rfl,rfl,p_11,_,_,rfl,rfl,t5,fun t ht=>?_⟩
  refine q t _ ((F%11-5,0,F / 11%11-5,0),0) (Z0f ht _) Z0c ⟨⟨?_,s_0,?_,s_0⟩,⟨Int.le_refl 0,.inl rfl⟩,forty⟩
  ·exact Z2d (by show -16<F%11-5;omega) (by show F%11-5<16;omega)
  ·exact Z2d (by show -16<F / 11%11-5;omega) (by show F / 11%11-5<16;omega)
 ·exact⟨t5,fun t ht=>q t _ ((0,0,0,0),0) (Z0f ht _) Z0c ⟨⟨s_0,s_0,s_0,s_0⟩,⟨Int.le_refl 0,.inl rfl⟩,forty⟩⟩
theorem Z3c {H H':Hp}{ps:List Addr}{f:Nat->A5}{p:Addr}{x:A5}(v:Vals5 H ps f)(s:Same H H')(e:H' p=some (tA x)):Vals5 H' (ps++[p]) (fun j=>if j=ps.length then x else f j):=by
 intro i q hq
 by_cases hi:i<ps.length
 ·rw[List.getElem?_append_left hi] at hq
  show H' q=some (tA (if i=ps.length then x else f i))
  rw[if_neg (by omega)]
  exact s _ _ (v i q hq)
 ·rw[List.getElem?_append_right (by omega)] at hq
  have hi2:i=ps.length:=by
   have:=(List.getElem?_eq_some_iff.mp hq).1
   simp at this
   omega
  subst hi2
  simp at hq
  subst hq
  show H' _=some (tA (if ps.length=ps.length then x else f ps.length))
  rw[if_pos rfl]
  exact e
theorem Z2t {H:Hp}{ps:List Addr}{f:Nat->A5}{l:Addr}{xs ys:List V}(v:Vals5 H ps f)(e:H l=some (.lst xs)):Vals5 (upd H l (.lst ys)) ps f:=fun i q hq=>by
 have:=v i q hq
 rw[Z0x (Z5o this e (by intro z;cases z))]
 exact this
theorem Y2b {H:Hp}{ps:List Addr}{f:Nat->A5}{p:Addr}{x:A5}{j:Nat}(v:Vals5 H ps f)(e:H p=some (tA x)):Vals5 H (ps.set j p) (fun i=>if i=j then x else f i):=by
 intro i q hq
 by_cases hi:i=j
 ·subst hi
  rw[List.getElem?_set_self'] at hq
  show H q=some (tA (if i=i then x else f i))
  rw[if_pos rfl]
  cases h:ps[i]? with
  | none=>rw[h] at hq;cases hq
  | some r=>rw[h] at hq;cases hq;exact e
 ·rw[List.getElem?_set_ne (fun z=>hi z.symm)] at hq
  show H q=some (tA (if i=j then x else f i))
  rw[if_neg hi]
  exact v i q hq
def Nz (c:Nat)(f:Nat->A5):Prop:=∃ w,w<2^c/\f w≠((0,0,0,0),0)
def Y2x (K:PySem.W.Frag):Sp:=fun vs H Q _=>∃ (a:Addr) (ns:List Int) (i:Int) (c:Nat),vs=[.ref a,.int i,.int c]/\SqL K H a (ns.map V.int)/\Light ns/\0<=i/\1<=c/\c<=6 ∧
 ∀ (l:Addr) (H':Hp) (ps:List Addr) (f:Nat->A5),H l=none->Same H H'->H' l=some (.lst (ps.map V.ref))->ps.length=2^c->Vals5 H' ps f->(∀ i,Ok5 100 40 (f i))->Nz c f->Q (.ref l) H'
theorem X7c {n:Nat}{f:Nat->A5}(h:¬ (((List.range n).map fun j=>decide (l5 (f j)=[0,0,0,0,0])).all id=true)):∃ w,w<n/\f w≠((0,0,0,0),0):=by
 apply Classical.byContradiction
 intro no
 apply h
 rw[List.all_eq_true]
 intro b hb
 obtain⟨j,hj,rfl⟩:=List.mem_map.mp hb
 have e:f j=((0,0,0,0),0):=Classical.byContradiction fun z=>no ⟨j,List.mem_range.mp hj,z⟩
 show decide (l5 (f j)=_)=true
 rw[e]
 rfl
theorem sc_bdby:FnScope ["_law_script","_law_at","_law_cells","_law_board","_law_k"] ["_law_script","_law_at","_law_cells"] (Z0i (top 75)):=fS
theorem X4p (F:FunAt K "_law_board_by" (top 75) .none)(X:K.In h)(G:h.Ns mainGlobals mg)(B:Bs mg)(c__law_cell_at:Cal P w K mg base k "_law_cell_at" ["_law_script","_law_k"] (spCell K))(c__law_amount_by:Cal P w K mg base k "_law_amount_by" ["_law_cell"] Y0z) :
  Cal P w K mg base (k+1) "_law_board_by" ["_law_script","_law_at","_law_cells"] (Y2x K):=by
 have nd:=sc_bdby.nd
 refine F.cal X G sc_bdby (bnd3 fun _ _ _ _ _ _ _ _ _=>rfl) (fun vs H Q E h=>?_) (fun f cdv A outer s H vs Q E hr h=>?_)
 ·obtain⟨a,ns,i,c,rfl,_⟩:=h;rfl
 obtain⟨a,ns,i,c,rfl,hS,lt,i0,c1,c6,q⟩:=h
 refine⟨_,(@Z0e _ _ _ _ _ (@Z0r _ _ 3 _ _ _ _ nd rfl (Or.inl rfl) (@Z3f _ _ _ _ Z0d) rfl (.inl rfl))
  (@Z0e _ _ _ _ _ (Z1p PassesOwn.never rfl (Z0w rfl B.range (Z0a (Z0h Z1r Z0b (pv 2)) Z0d)) (Z0m (i:=4) nd rfl (Or.inl rfl))
   (@Z0g _ _ _ (Z3i (Y1d PySem.F.plainAttrs_list PySem.F.slot_list_append PySem.F.type_list_append Z2m (pv 3) (Z0a (Z0k c__law_amount_by hr rfl (Z0a (Z0h Z1c (Z0k c__law_cell_at hr rfl (Z0a (pv 0) (Z0a (Z0h Z1c (pv 1) (Z0h Z0u (pv 4) Z0b)) Z0d))) (Z0h Z2y (Z0h Z1e (pv 4) Z0b) Z0b)) Z0d)) Z0d)))))
  (@Z1q _ _ _ _ _ (Z0y (Z1l (Z0q (Z2h rfl) rfl B.all boot_all (Z0a (Z3k rfl (LcOk.of (Nc:=["_law_one"]) (mp:=[none]) (by kernel_rfl)) (Z1d (pv 3)) (fun _ _ _ _=>(Z0m (i:=0) (show (["_law_one"]:List Str).Nodup by decide +kernel) rfl (Or.inl rfl))) (fun _ _ _ _=>(Z1n (Z8l hr.units) (pv 0) (@Z0z _ _ _ _ _ (Z0a Z0b (Z0a Z0b (Z0a Z0b (Z0a Z0b (Z0a Z0b Z0d)))))) (nomark _)))) Z0d)))
   (@Z0g _ _ _ (Z5t (@Z0z _ _ _ _ _ (Z0a Z0b (Z0a Z0b (Z0a Z0b (Z0a Z0b (Z0a Z0b Z0d)))))) (Z9q (pv 3) (Z0h Z0u (Z0k c__law_cell_at hr rfl (Z0a (pv 0) (Z0a (pv 1) Z0d))) (Z0q Z0v rfl B.len PySem.boot_len (Z0a (pv 3) Z0d))) Z4w)))
   Z0p)
  (@Z0g _ _ _ (Z0j (pv 3)))))),?_⟩
 try dsimp only[cxK]
 refine⟨Nat.zero_le _,fun l hl=>?_⟩
 have hN:(1:Int)*2^((c:Int).toNat)=((2^c:Nat):Int):=ipow c
 have hM:(1*2^((c:Int).toNat):Int).toNat=2^c:=by rw[hN,Int.toNat_natCast]
 have p6:=pow6 c6
 have p0:0<2^c:=Nat.two_pow_pos c
 refine⟨_,rfl,_,_,rfl,rfl,⟨1,sz1,by omega,by omega⟩,_,rfl,by rw[hN];omega,?_,Z1i (n:=(1*2^((c:Int).toNat):Int).toNat) (fun j σ H'=>∃ (ps:List Addr) (f:Nat->A5) (v:Option V),Same H H'/\H' l=some (.lst (ps.map V.ref))/\ps.length=j/\Vals5 H' ps f/\(∀ i,Ok5 100 40 (f i))/\σ=[some (.ref a),some (.int i),some (.int c),some (.ref l),v])
  ⟨[],fun _=>((0,0,0,0),0),_,Z0f hl _,Z0c,rfl,(fun _ _ z=>by cases z),(fun _=>⟨⟨s_0,s_0,s_0,s_0⟩,⟨Int.le_refl 0,.inl rfl⟩,forty⟩),rfl⟩ ?_ ?_⟩
 ·rw[hN];omega
 ·rintro j σ H1 hj ⟨ps,f,v,S1,h1,hlen,hv,ok,rfl⟩
  rw[hM] at hj
  have hS1:=S1.seq hS
  have sz8:Sz 1048600 (cell ns (i+(0+(j:Int))%8)+(0+(j:Int)) / 8*7919):=((Z8x lt _).add (show Sz 20 ((0+(j:Int)) / 8*7919) by unfold Sz;omega)).mono (by decide)
  refine⟨_,rfl,.inl ⟨rfl,_,SqL.of h1⟩,_,rfl,_,rfl,_,rfl,_,_,rfl,rfl,p_8,_,_,rfl,rfl,a,ns,_,rfl,hS1,(by show 0<=i+(0+(j:Int))%8;omega),_,rfl,_,_,rfl,rfl,⟨by decide,by decide⟩,_,_,rfl,rfl,.inr ⟨by decide,by decide⟩,_,_,rfl,rfl,_,rfl,sz8,fun p H2 x s2 e2 o2=>?_⟩
  refine⟨l,_,_,rfl,rfl,s2 _ _ h1,(by rw[List.length_map,hlen];exact Nat.lt_of_lt_of_le (Nat.lt_of_lt_of_le hj p6) (by decide)),?_⟩
  refine⟨ps++[p],fun i=>if i=ps.length then x else f i,some (.int (0+j)),Z0s (S1.trans s2) hl,?_,by simp[hlen],Z2t (Z3c hv s2 e2) (s2 _ _ h1),fun i=>?_,rfl⟩
  ·rw[Z0c,List.map_append];rfl
  ·show Ok5 100 40 (if i=ps.length then x else f i)
   split
   ·exact o2
   ·exact ok i
 ·rintro σ H1 ⟨ps,f,v,S1,h1,hlen,hv,ok,rfl⟩
  rw[hM] at hlen
  have hS1:=S1.seq hS
  refine⟨fun σ' H'=>∃ (ps:List Addr) (f:Nat->A5),Same H H'/\H' l=some (.lst (ps.map V.ref))/\ps.length=2^c/\Vals5 H' ps f/\(∀ i,Ok5 100 40 (f i))/\Nz c f/\σ'=[some (.ref a),some (.int i),some (.int c),some (.ref l),v],?_,?_⟩
  ·refine⟨_,rfl,l,rfl,⟨_,SqL.of h1⟩,fun acc hacc=>?_⟩
   refine Z3h (K:=K) (a:=l) (xs:=ps.map V.ref) (fr:=[]) (fun i ys H'=>Same H1 H'/\H' acc=some (.lst ys)/\ys=((List.range i).map fun j=>decide (l5 (f j)=[0,0,0,0,0])).map V.bl) (by rw[List.length_map,hlen];exact t64 p6) ⟨Z0f hacc _,Z0c,rfl⟩ (fun i ys H' p=>SqL.of (p.1 _ _ h1)) ?_ ?_
   ·rintro i x ys H2 N hx hy ⟨s2,a2,rfl⟩ kN
    rw[List.getElem?_map] at hx
    obtain⟨p,hp,rfl⟩:=Option.map_eq_some_iff.mp hx
    have ep:=s2 _ _ (hv i p hp)
    refine⟨_,rfl,t5,fun t ht=>⟨p,t,l5 (f i),[0,0,0,0,0],rfl,rfl,SqT.of (Z0f ht _ _ _ ep),SqT.of Z0c,kN _ _ (Z0f ht _ _ _ a2) ⟨Z0s (s2.trans (Z0f ht _)) hacc,Z0c,?_⟩⟩⟩
    rw[List.range_succ,List.map_append,List.map_append];rfl
   ·rintro ys H2 hl2 ⟨s2,a2,rfl⟩
    refine⟨acc,_,rfl,SqL.of a2,_,rfl,blI (fun _=>?_) (fun eb=>?_)⟩
    ·refine⟨t5,fun t ht=>?_⟩
     have S3:=s2.trans (Z0f ht (tA ((1,0,0,0),0)))
     have h3:=S3 _ _ h1
     have lp:(0:Int)<((ps.map V.ref).length:Nat):=by rw[List.length_map,hlen];omega
     have e0:=Int.emod_nonneg (cell ns i) (Int.ne_of_gt lp)
     have e1:=Int.emod_lt_of_pos (cell ns i) lp
     refine⟨_,rfl,_,rfl,_,rfl,a,ns,_,rfl,S3.seq hS1,i0,_,rfl,l,_,rfl,.inl (SqL.of h3),_,_,rfl,rfl,lp,l,_,_,(cell ns i%((ps.map V.ref).length:Nat)).toNat,rfl,rfl,h3,?_,?_⟩
     ·unfold ixN
      rw[if_pos e0,if_pos e1]
     refine⟨ps.set (cell ns i%((ps.map V.ref).length:Nat)).toNat t,fun j=>if j=(cell ns i%((ps.map V.ref).length:Nat)).toNat then ((1,0,0,0),0) else f j,Z0s (S1.trans S3) hl,?_,by simp[hlen],Z2t (Y2b (hv.same S3) Z0c) h3,fun j=>?_,⟨(cell ns i%((ps.map V.ref).length:Nat)).toNat,?_,?_⟩,rfl⟩
     ·rw[Z0c,List.map_set]
     ·show Ok5 100 40 (if j=_ then _ else f j)
      split
      ·exact⟨⟨s_1,s_0,s_0,s_0⟩,⟨Int.le_refl 0,.inl rfl⟩,forty⟩
      ·exact ok j
     ·show (cell ns i%((ps.map V.ref).length:Nat)).toNat<2^c
      rw[List.length_map,hlen] at *
      omega
     ·show (if _=_ then ((1,0,0,0),0) else f _)≠_
      rw[if_pos rfl]
      intro z
      cases z
    ·refine⟨ps,f,S1.trans s2,s2 _ _ h1,hlen,hv.same s2,ok,?_,rfl⟩
     rw[List.length_map,hlen] at eb
     exact X7c (by rw[eb];exact Bool.false_ne_true)
  rintro σ' H2 ⟨qs,g,S2,h2,l2,v2,o2,nz,rfl⟩
  exact⟨_,rfl,q l H2 qs g hl S2 h2 l2 v2 o2 nz⟩
end
end K62.V
namespace K62
open PySem PySem.Spec PyProof.Rows L2 Am Pc Ba
section
variable {P:Program}{w:World}{K:PySem.W.Frag}{mg:Str->Option Value}{base:Heap}{k:Nat}{h:Heap}
theorem sc_markby:FnScope ["_law_cell","_law_cells","_law_mixed_up","_law_size"] ["_law_cell","_law_cells"] (Z0i (top 76)):=fS
theorem Y6w (F:FunAt K "_law_mark_by" (top 76) .none)(X:K.In h)(G:h.Ns mainGlobals mg):Cal P w K mg base (k+1) "_law_mark_by" ["_law_cell","_law_cells"] Y2t:=by
 have nd:=sc_markby.nd
 refine F.cal X G sc_markby (bnd2 fun _ _ _ _ _ _ _ _=>rfl) (fun vs H Q E h=>?_) (fun f cdv A outer s H vs Q E hr h=>?_)
 ·obtain⟨c,n,rfl,_⟩:=h;rfl
 obtain⟨c,n,rfl,hn,kq⟩:=h
 refine⟨_,(@Z0e _ _ _ _ _ (@Z0r _ _ 2 _ _ _ _ nd rfl (Or.inl rfl) (Z0h Z0u (Z0h Z2y (pv 0) Z0b) Z0b) rfl (.inl rfl))
  (@Z0e _ _ _ _ _ (@Z0r _ _ 3 _ _ _ _ nd rfl (Or.inl rfl) (Z0h Z1r Z0b (pv 1)) rfl (.inl rfl))
  (@Z0g _ _ _ (Z0j (@Z0z _ _ _ _ _ (Z0a (Z0h Z0u (pv 2) Z0b) (Z0a (Z0h Z0u (Z0h Z1e (pv 2) Z0b) (pv 3)) (Z0a (Z0h Z0u (Z0h Z5e (Z0h Z1e (pv 2) Z0b) (pv 3)) (pv 3)) Z0d)))))))),?_⟩
 try dsimp only[cxK]
 have p6:=pow6 hn
 have p0:0<2^n:=Nat.two_pow_pos n
 have hN:(1:Int)*2^((n:Int).toNat)=((2^n:Nat):Int):=ipow n
 have N0:(0:Int)<1*2^((n:Int).toNat):=by rw[hN];omega
 refine⟨_,rfl,_,_,rfl,rfl,.inr ⟨by decide,by decide⟩,_,_,rfl,rfl,X3t,?_⟩
 refine⟨_,rfl,_,_,rfl,rfl,⟨1,by decide +kernel,by omega,by omega⟩,?_⟩
 refine⟨_,rfl,_,_,rfl,rfl,p_4,_,rfl,_,_,rfl,rfl,⟨by decide,by decide⟩,_,rfl,_,_,rfl,rfl,N0,?_⟩
 refine⟨_,rfl,_,_,rfl,rfl,⟨by decide,by decide⟩,_,rfl,_,_,rfl,rfl,⟨Int.ne_of_gt N0,?_⟩,_,rfl,_,_,rfl,rfl,N0,(by show 3<=sizeLine;decide),fun r hr=>?_⟩
 ·rw[hN]
  exact(show Sz 7 ((2^n:Nat):Int) by unfold Sz;rw[Int.natAbs_natCast];omega).mono (by decide)
 generalize hm:c*48271%2147483647=m
 have m0:0<=m:=by omega
 have d0:0<=m / 4:=by omega
 have e1:(m%4).toNat<4:=by omega
 have l1:0<=m / 4%((2^n:Nat):Int)/\m / 4%((2^n:Nat):Int)<((2^n:Nat):Int):=⟨Int.emod_nonneg _ (by omega),Int.emod_lt_of_pos _ (by omega)⟩
 have l2:0<=(m / 4).fdiv ((2^n:Nat):Int)%((2^n:Nat):Int)/\(m / 4).fdiv ((2^n:Nat):Int)%((2^n:Nat):Int)<((2^n:Nat):Int):=⟨Int.emod_nonneg _ (by omega),Int.emod_lt_of_pos _ (by omega)⟩
 refine kq r _ (m%4).toNat (m / 4%((2^n:Nat):Int)).toNat ((m / 4).fdiv ((2^n:Nat):Int)%((2^n:Nat):Int)).toNat (Z0f hr _) ?_ e1 (by omega) (by omega)
 rw[Z0c]
 have t:∀ z:Int,0<=z->((z.toNat:Nat):Int)=z:=fun z hz=>by omega
 show some (HO.tup [.int (m%4),.int (m / 4%(1*2^((n:Int).toNat))),.int ((m / 4).fdiv (1*2^((n:Int).toNat))%(1*2^((n:Int).toNat)))])=some (HO.tup [.int _,.int _,.int _])
 rw[hN,t _ (by omega),t _ l1.1,t _ l2.1]
theorem sc_bits:FnScope ["_law_number","_law_many"] ["_law_number"] (Z0i (top 77)):=fS
theorem X4o (F:FunAt K "_law_bits" (top 77) .none)(X:K.In h)(G:h.Ns mainGlobals mg):Cal P w K mg base (k+1) "_law_bits" ["_law_number"] spOnes:=by
 have nd:=sc_bits.nd
 refine F.cal X G sc_bits (bnd1 fun _ _ _ _ _ _ _=>rfl) (fun vs H Q E h=>?_) (fun f cdv A outer s H vs Q E hr h=>?_)
 ·obtain⟨n,rfl,_⟩:=h;rfl
 obtain⟨n,rfl,q⟩:=h
 refine⟨_,(@Z0e _ _ _ _ _ (@Z0r _ _ 1 _ _ _ _ nd rfl (Or.inl rfl) Z0b rfl (.inl rfl))
  (@Z0e _ _ _ _ _ (Z6a PassesOwn.never (Z0o Z9w (pv 0) Z0b (nomark _))
   (@Z0e _ _ _ _ _ (@Z0r _ _ 1 _ _ _ _ nd rfl (Or.inl rfl) (Z0h Z1c (pv 1) (Z0h Z0u (pv 0) Z0b)) rfl (.inl rfl))
   (@Z0g _ _ _ (@Z0r _ _ 0 _ _ _ _ nd rfl (Or.inl rfl) (Z0h Z1e (pv 0) Z0b) rfl (.inl rfl)))))
  (@Z0g _ _ _ (Z0j (pv 1))))),?_⟩
 try dsimp only[cxK]
 refine⟨fun m σ H'=>H'=H/\∃ j:Nat,j+pc m=pc n/\σ=[some (.int m),some (.int j)],⟨n,rfl,0,Nat.zero_add _,rfl⟩,?_⟩
 rintro m σ H' ⟨rfl,j,hj,rfl⟩
 refine⟨_,rfl,_,_,rfl,rfl,_,rfl,decI (fun hr0=>?_) (fun hr0=>?_)⟩
 ·have hm:0<m:=by omega
  have e:=Z4g m
  refine⟨_,fun σ' H' x=>x,?_⟩
  refine⟨_,rfl,_,rfl,_,_,rfl,rfl,p_2,_,_,rfl,rfl,?_⟩
  refine⟨_,rfl,_,_,rfl,rfl,⟨by decide,by decide⟩,⟨m / 2,by omega,rfl,j+m%2,by omega,rfl⟩⟩
 ·have r0:m=0:=by omega
  subst r0
  rw[Z2c,Nat.add_zero] at hj
  subst hj
  exact⟨_,rfl,q⟩
theorem sc_cells:FnScope ["_law_cell"] ["_law_cell"] (Z0i (top 71)):=fS
theorem X0q (F:FunAt K "_law_cells_by" (top 71) .none)(X:K.In h)(G:h.Ns mainGlobals mg):Cal P w K mg base (k+1) "_law_cells_by" ["_law_cell"] Y5x:=by
 have nd:=sc_cells.nd
 refine F.cal X G sc_cells (bnd1 fun _ _ _ _ _ _ _=>rfl) (fun vs H Q E h=>?_) (fun f cdv A outer s H vs Q E hr h=>?_)
 ·obtain⟨c,rfl,_⟩:=h;rfl
 obtain⟨c,rfl,q⟩:=h
 refine⟨_,(@Z0e _ _ _ _ _ (Z0y (Z0o Z1u (Z0h Z0u (Z0h Z1e (pv 0) Z0b) Z0b) Z0b (nomark _))
   (@Z0g _ _ _ (Z0j (Z0h Z1c Z0b (Z0h Z0u (Z0h Z1e (pv 0) Z0b) Z0b))))
   Z0p)
  (@Z0g _ _ _ (Z0j (Z0h Z1c Z0b (Z0h Z0u (pv 0) Z0b))))),?_⟩
 try dsimp only[cxK]
 refine⟨_,rfl,_,_,rfl,rfl,⟨by decide,by decide⟩,_,_,rfl,rfl,p_8,rfl,_,rfl,eqI (fun _=>?_) (fun _=>?_)⟩
 ·refine⟨_,rfl,_,_,rfl,rfl,⟨by decide,by decide⟩,_,_,rfl,rfl,p_3,_,_,rfl,rfl,?_⟩
  have:=q (4+c / 24%3).toNat (by omega) (by omega)
  rw[show (((4+c / 24%3).toNat:Nat):Int)=4+c / 24%3 by omega] at this
  exact this
 ·refine⟨_,rfl,_,_,rfl,rfl,p_3,_,_,rfl,rfl,?_⟩
  have:=q (1+c%3).toNat (by omega) (by omega)
  rw[show (((1+c%3).toNat:Nat):Int)=1+c%3 by omega] at this
  exact this
end
end K62
namespace K51
open Pc
abbrev Eqn:=Nat × Nat
def add (e f:Eqn):Eqn:=(e.1^^^f.1,e.2^^^f.2)
def sat (x:Nat)(e:Eqn):Prop:=pc (e.1&&&x)%2=e.2
def bl (m:Nat):Nat:=if m=0 then 0 else m.log2+1
theorem bl_le {m n:Nat}:bl m<=n ↔ m<2^n:=by
 unfold bl
 by_cases h:m=0
 ·subst h;simp[Nat.two_pow_pos]
 ·rw[if_neg h,<-Nat.log2_lt h];omega
theorem bl_zero {m:Nat}:bl m=0 ↔ m=0:=by
 unfold bl
 by_cases h:m=0<;>simp[h]
theorem X1p (m:Nat):m<2^bl m:=bl_le.mp (Nat.le_refl _)
theorem X1q {m k:Nat}(h:bl m=k+1):2^k<=m:=by
 rcases Nat.lt_or_ge m (2^k) with c | c
 ·have:=bl_le.mpr c;omega
 ·exact c
theorem Y5e:∀ (k m o:Nat),2^k<=m->m<2^(k+1)->2^k<=o->o<2^(k+1)->(m^^^o)<2^k
 | 0,m,o,a,b,c,d=>by
  obtain rfl:m=1:=by simp at a b;omega
  obtain rfl:o=1:=by simp at c d;omega
  decide
 | k+1,m,o,a,b,c,d=>by
  have e1:2^(k+1+1)=2*2^(k+1):=Nat.pow_succ'
  have e2:2^(k+1)=2*2^k:=Nat.pow_succ'
  have:=Y5e k (m / 2) (o / 2) (by omega) (by omega) (by omega) (by omega)
  have e:=Z3r m o
  omega
theorem Y9d {m o:Nat}(h:bl m=bl o)(h0:m≠0):(m^^^o)<m:=by
 cases e:bl m with
 | zero=>exact absurd (bl_zero.mp e) h0
 | succ k =>
  have a:=X1p m
  have b:=X1p o
  rw[<-h,e] at b
  rw[e] at a
  exact Nat.lt_of_lt_of_le (Y5e k m o (X1q e) a (X1q (h ▸ e)) b) (X1q e)
theorem X3k {x:Nat}{e f:Eqn}(he:sat x e)(hf:sat x f)(_:e.2<2)(_:f.2<2):sat x (add e f):=by
 unfold sat add at *
 dsimp only
 rw[Nat.and_xor_distrib_right,pcx]
 have:=Z3r e.2 f.2
 have z:e.2 / 2=0:=by omega
 have z':f.2 / 2=0:=by omega
 rw[z,z'] at this
 have q:(0^^^0:Nat)=0:=rfl
 omega
theorem X5x (e f:Eqn):add (add e f) f=e:=by
 unfold add
 simp[Nat.xor_assoc]
theorem Z2g {a b:Nat}(h1:a<2)(h2:b<2):(a^^^b)<2:=Nat.xor_lt_two_pow (n:=1) h1 h2
def comb:List Eqn->Nat->Eqn
 | [],_=>(0,0)
 | e::r,c=>if c%2=1 then add e (comb r (c / 2)) else comb r (c / 2)
theorem Y0q (e f:Eqn):add e f=add f e:=by unfold add;rw[Nat.xor_comm e.1,Nat.xor_comm e.2]
theorem Z3b (e f g:Eqn):add (add e f) g=add e (add f g):=by unfold add;simp[Nat.xor_assoc]
theorem Y4b:∀ (es:List Eqn) (c d:Nat),comb es (c^^^d)=add (comb es c) (comb es d)
 | [],_,_=>by simp[comb,add]
 | e::r,c,d=>by
  have x:=Z3r c d
  have h1:(c^^^d) / 2=c / 2^^^d / 2:=by omega
  have h2:(c^^^d)%2=(c%2+d%2)%2:=by omega
  have ih:=Y4b r (c / 2) (d / 2)
  unfold comb
  rw[h1,h2,ih]
  rcases Nat.mod_two_eq_zero_or_one c with a | a<;>rcases Nat.mod_two_eq_zero_or_one d with b | b<;>rw[a,b]
  ·rfl
  ·simp only[show (0+1)%2=1 from rfl,if_true,show ¬ (0=1) by decide,if_false]
   rw[<-Z3b,<-Z3b,Y0q e]
  ·simp only[show (1+0)%2=1 from rfl,if_true,show ¬ (0=1) by decide,if_false]
   rw[Z3b]
  ·simp only[show ¬ ((1+1)%2=1) by decide,if_true,if_false]
   rw[Y0q e (comb r (c / 2)),Z3b,<-Z3b e e,show add e e=(0,0) by unfold add;simp,show add (0,0) (comb r (d / 2))=comb r (d / 2) by unfold add;simp]
theorem Y0d:∀ es:List Eqn,comb es 0=(0,0)
 | []=>rfl
 | e::r=>by unfold comb;simp[Y0d r]
theorem Y4c:∀ (es:List Eqn) (i:Nat) (e:Eqn),es[i]?=some e->comb es (2^i)=e
 | [],i,e,h=>by simp at h
 | f::r,0,e,h=>by
  have:f=e:=by simpa using h
  subst this
  unfold comb
  simp[Y0d,add]
 | f::r,i+1,e,h=>by
  have q:r[i]?=some e:=by simpa using h
  have e1:2^(i+1) / 2=2^i:=by rw[Nat.pow_succ'];omega
  have e2:2^(i+1)%2=0:=by rw[Nat.pow_succ'];omega
  unfold comb
  rw[e1,e2]
  simpa using Y4c r i e q
theorem Z5j:∀ (es:List Eqn) (c:Nat),(∀ e∈es,e.2<2)->(comb es c).2<2
 | [],_,_=>by unfold comb;decide
 | e::r,c,h=>by
  have ih:=Z5j r (c / 2) fun f hf=>h f (List.mem_cons_of_mem _ hf)
  unfold comb
  split
  ·exact Z2g (h e List.mem_cons_self) ih
  ·exact ih
theorem X5v {m k:Nat}(h1:2^k<=m)(h2:m<2^(k+1)):m&&&2^k=2^k:=by
 have e:m / 2^k=1:=by
  rw[Nat.pow_succ'] at h2
  have p:=Nat.two_pow_pos k
  rw[Nat.div_eq_iff p]
  omega
 refine Nat.eq_of_testBit_eq fun j=>?_
 rw[Nat.testBit_and,Nat.testBit_two_pow]
 by_cases q:k=j
 ·subst q
  rw[Nat.testBit_eq_decide_div_mod_eq,e]
  simp
 ·simp[q]
theorem Y0p {m k:Nat}(h:m<2^k):m&&&2^k=0:=by
 refine Nat.eq_of_testBit_eq fun j=>?_
 rw[Nat.testBit_and,Nat.testBit_two_pow,Nat.zero_testBit]
 by_cases q:k=j
 ·subst q
  rw[Nat.testBit_lt_two_pow h]
  rfl
 ·simp[q]
theorem Y6k:∀ k:Nat,pc (2^k)=1
 | 0=>by rw[Z4g];show 1%2+pc (1 / 2)=1;rw[show (1 / 2:Nat)=0 from rfl,Z2c]
 | k+1=>by
  have e1:2^(k+1) / 2=2^k:=by rw[Nat.pow_succ'];omega
  have e2:2^(k+1)%2=0:=by rw[Nat.pow_succ'];omega
  rw[Z4g,e1,e2,Y6k k]
theorem Y3h {x k:Nat}(h:x<2^k):(x ||| 2^k)=x^^^2^k:=by
 rw[Y6o (x+2^k+1) x (2^k) (by omega) (by omega),Y0p h,Nat.add_zero]
theorem Y0u {x k:Nat}(h:x<2^k):(x^^^2^k)=x+2^k:=by
 have:=Nat.two_pow_add_eq_or_of_lt h 1
 rw[Nat.mul_one] at this
 rw[<-Y3h h,Nat.or_comm,<-this,Nat.add_comm]
theorem X3j {x k:Nat}{e:Eqn}(hx:x<2^k)(hk:bl e.1=k+1)(hb:e.2<2)(n:¬ sat x e):sat (x ||| 2^k) e:=by
 have a:=X1p e.1
 rw[hk] at a
 unfold sat at *
 rw[Y3h hx,Nat.and_xor_distrib_left,pcx,X5v (X1q hk) a,Y6k]
 omega
theorem Y9k {x k:Nat}{e:Eqn}(hx:x<2^k)(hk:bl e.1<=k)(h:sat x e):sat (x ||| 2^k) e:=by
 unfold sat at *
 rw[Y3h hx,Nat.and_xor_distrib_left,pcx,Y0p (bl_le.mp hk),Z2c,Nat.add_zero]
 exact h
theorem X8o {x k:Nat}(hx:x<2^k):(x ||| 2^k)<2^(k+1):=by
 rw[Y3h hx,Y0u hx,Nat.pow_succ']
 omega
def places (c n:Nat):List Nat:=(List.range n).filter fun j=>decide (c / 2^j%2=1)
theorem Z4e {c n p:Nat}(h:p∈places c n):p<n:=List.mem_range.mp (List.mem_filter.mp h).1
theorem Z3e (c n:Nat):places c (n+1)=places c n++(if c / 2^n%2=1 then [n] else []):=by
 unfold places
 rw[List.range_succ,List.filter_append]
 by_cases h:c / 2^n%2=1<;>simp[h]
abbrev Ent:=Nat × Nat × Nat
def eqOf (t:Ent):Eqn:=(t.1,t.2.1)
structure Good (es:List Eqn) (i:Nat) (ts:List Ent):Prop where
 nz:∀ t∈ts,t.1≠0
 com:∀ t∈ts,comb es t.2.2=eqOf t
 lt:∀ t∈ts,t.2.2<2^i
 nd:(ts.map fun t=>bl t.1).Nodup
 len:ts.length<=i
 all:∀ x,(∀ t∈ts,sat x (eqOf t))->∀ j e,j<i->es[j]?=some e->sat x e
theorem Good.start (es:List Eqn):Good es 0 []:=⟨by simp,by simp,by simp,by simp,by simp,fun _ _ j e h=>by omega⟩
structure Left (es:List Eqn) (i:Nat) (ts:List Ent) (e:Eqn) (t:Ent):Prop where
 com:comb es t.2.2=eqOf t
 lt:t.2.2<2^(i+1)
 sat:∀ x,(∀ t∈ts,sat x (eqOf t))->sat x (eqOf t)->sat x e
theorem Left.start {es:List Eqn}{i:Nat}{ts:List Ent}{e:Eqn}(h:es[i]?=some e):Left es i ts e (e.1,e.2,2^i) :=
 ⟨Y4c es i e h,Nat.pow_lt_pow_right (by decide) (Nat.lt_succ_self _),fun _ _ z=>z⟩
theorem Y3x (s t:Ent):eqOf (s.1^^^t.1,s.2.1^^^t.2.1,s.2.2^^^t.2.2)=add (eqOf s) (eqOf t):=rfl
theorem Left.step {es:List Eqn}{i:Nat}{ts:List Ent}{e:Eqn}{s t:Ent}(hb:∀ e∈es,e.2<2)(G:Good es i ts)(L:Left es i ts e s)(ht:t∈ts):Left es i ts e (s.1^^^t.1,s.2.1^^^t.2.1,s.2.2^^^t.2.2):=by
 refine⟨?_,?_,fun x hx z=>L.sat x hx ?_⟩
 ·rw[Y3x]
  show comb es (s.2.2^^^t.2.2)=_
  rw[Y4b,L.com,G.com t ht]
 ·exact Nat.xor_lt_two_pow L.lt (Nat.lt_trans (G.lt t ht) (Nat.pow_lt_pow_right (by decide) (Nat.lt_succ_self _)))
 ·rw[Y3x] at z
  have b1:(eqOf s).2<2:=by rw[<-L.com];exact Z5j es _ hb
  have b2:(eqOf t).2<2:=by rw[<-G.com t ht];exact Z5j es _ hb
  have q:=X3k z (hx t ht) (Z2g b1 b2) b2
  rw[X5x] at q
  exact q
theorem Left.bit {es:List Eqn}{i:Nat}{ts:List Ent}{e:Eqn}{t:Ent}(hb:∀ e∈es,e.2<2)(L:Left es i ts e t):t.2.1<2:=by
 have:(eqOf t).2<2:=by rw[<-L.com];exact Z5j es _ hb
 exact this
theorem Z6r (i:Nat):2^i<2^(i+1):=Nat.pow_lt_pow_right (by decide) (Nat.lt_succ_self _)
theorem Good.put {es:List Eqn}{i:Nat}{ts:List Ent}{e:Eqn}{t:Ent}(G:Good es i ts)(he:es[i]?=some e)(L:Left es i ts e t)(h0:t.1≠0)(hn:∀ s∈ts,bl s.1≠bl t.1):Good es (i+1) (ts++[t]) where
 nz:=fun s hs=>by
  rcases List.mem_append.mp hs with q | q
  ·exact G.nz s q
  ·rw[List.mem_singleton.mp q];exact h0
 com:=fun s hs=>by
  rcases List.mem_append.mp hs with q | q
  ·exact G.com s q
  ·rw[List.mem_singleton.mp q];exact L.com
 lt:=fun s hs=>by
  rcases List.mem_append.mp hs with q | q
  ·exact Nat.lt_trans (G.lt s q) (Z6r i)
  ·rw[List.mem_singleton.mp q];exact L.lt
 nd:=by
  rw[List.map_append,List.nodup_append]
  refine⟨G.nd,by simp,fun a ha b hb=>?_⟩
  obtain⟨s,hs,rfl⟩:=List.mem_map.mp ha
  obtain rfl:b=bl t.1:=by simpa using hb
  exact hn s hs
 len:=by rw[List.length_append];have:=G.len;simp;omega
 all:=fun x hx j f hj hf=>by
  have h1:∀ s∈ts,sat x (eqOf s):=fun s hs=>hx s (List.mem_append_left _ hs)
  by_cases hji:j<i
  ·exact G.all x h1 j f hji hf
  ·obtain rfl:j=i:=by omega
   rw[he] at hf
   cases hf
   exact L.sat x h1 (hx t (by simp))
theorem Good.skip {es:List Eqn}{i:Nat}{ts:List Ent}{e:Eqn}{t:Ent}(G:Good es i ts)(he:es[i]?=some e)(L:Left es i ts e t)(h0:t.1=0)(hb:t.2.1=0):Good es (i+1) ts where
 nz:=G.nz
 com:=G.com
 lt:=fun s hs=>Nat.lt_trans (G.lt s hs) (Z6r i)
 nd:=G.nd
 len:=Nat.le_succ_of_le G.len
 all:=fun x hx j f hj hf=>by
  by_cases hji:j<i
  ·exact G.all x hx j f hji hf
  ·obtain rfl:j=i:=by omega
   rw[he] at hf
   cases hf
   refine L.sat x hx ?_
   unfold sat eqOf
   rw[h0,hb,Nat.zero_and,Z2c]
theorem Y0b {f:Ent->Nat}:∀ {ts:List Ent},(ts.map f).Nodup->∀ {s t},s∈ts->t∈ts->f s=f t->s=t
 | [],_,s,t,hs,_,_=>by cases hs
 | a::r,nd,s,t,hs,ht,e=>by
  rw[List.map_cons,List.nodup_cons] at nd
  rcases List.mem_cons.mp hs with h1 | h1<;>rcases List.mem_cons.mp ht with h2 | h2
  ·rw[h1,h2]
  ·exact absurd (List.mem_map.mpr ⟨t,h2,by rw[<-e,h1]⟩) nd.1
  ·exact absurd (List.mem_map.mpr ⟨s,h1,by rw[e,h2]⟩) nd.1
  ·exact Y0b nd.2 h1 h2 e
theorem X5k {ts:List Ent}{ks:List Int}(nd:(ts.map fun t=>bl t.1).Nodup)(p:ks.Perm (ts.map fun t=>(bl t.1:Int)))(o:ks.Pairwise (·<=·)):ks.Pairwise (·<·):=by
 have n1:(ts.map fun t=>(bl t.1:Int)).Nodup:=by
  rw[List.Nodup,List.pairwise_map] at nd ⊢
  exact nd.imp fun h z=>h (Int.ofNat.inj z)
 have n2:ks.Nodup:=p.nodup_iff.mpr n1
 exact(o.and n2).imp fun ⟨a,b⟩=>by omega
structure Sol (ts:List Ent) (ks:List Int) (j x:Nat):Prop where
 done:∀ t∈ts,∀ i,i<j->ks[i]?=some (bl t.1:Int)->sat x (eqOf t)
 low:∀ h,ks[j]?=some h->x<2^(h.toNat-1)
theorem Sol.start (ts:List Ent)(ks:List Int):Sol ts ks 0 0:=⟨fun _ _ i h=>by omega,fun h _=>Nat.two_pow_pos _⟩
theorem rise {ks:List Int}(o:ks.Pairwise (·<·)){i j:Nat}{a b:Int}(h:i<j)(ha:ks[i]?=some a)(hb:ks[j]?=some b):a<b:=by
 obtain⟨h1,rfl⟩:=List.getElem?_eq_some_iff.mp ha
 obtain⟨h2,rfl⟩:=List.getElem?_eq_some_iff.mp hb
 exact List.pairwise_iff_getElem.mp o i j h1 h2 h
theorem Sol.step {ts:List Ent}{ks:List Int}{j x:Nat}{t:Ent}(S:Sol ts ks j x)(nd:(ts.map fun t=>bl t.1).Nodup)(o:ks.Pairwise (·<·))(ht:t∈ts)(nz:t.1≠0)(hb:t.2.1<2)(hj:ks[j]?=some (bl t.1:Int)) :
  (sat x (eqOf t)->Sol ts ks (j+1) x)/\(¬ sat x (eqOf t)->Sol ts ks (j+1) (x ||| 2^(bl t.1-1))):=by
 have h0:bl t.1≠0:=fun z=>nz (bl_zero.mp z)
 obtain⟨k,hk⟩:∃ k,bl t.1=k+1:=⟨bl t.1-1,by omega⟩
 have hx:=S.low _ hj
 rw[Int.toNat_natCast,hk,Nat.add_sub_cancel] at hx
 have same:∀ s∈ts,ks[j]?=some (bl s.1:Int)->s=t:=fun s hs e=>Y0b nd hs ht (by rw[e] at hj;exact Int.ofNat.inj (Option.some.inj hj))
 have next:∀ h,ks[j+1]?=some h->k+1<=h.toNat-1:=fun h e=>by
  have:=rise o (Nat.lt_succ_self j) hj e
  omega
 rw[hk,Nat.add_sub_cancel]
 constructor
 ·intro z
  refine⟨fun s hs i hi e=>?_,fun h e=>?_⟩
  ·by_cases q:i<j
   ·exact S.done s hs i q e
   ·obtain rfl:i=j:=by omega
    rw[same s hs e]
    exact z
  ·exact Nat.lt_of_lt_of_le hx (Nat.pow_le_pow_right (by decide) (Nat.le_trans (Nat.le_succ k) (next h e)))
 ·intro z
  refine⟨fun s hs i hi e=>?_,fun h e=>?_⟩
  ·by_cases q:i<j
   ·have:=rise o q e hj
    exact Y9k hx (by show bl s.1<=k;omega) (S.done s hs i q e)
   ·obtain rfl:i=j:=by omega
    rw[same s hs e]
    exact X3j hx hk hb z
  ·exact Nat.lt_of_lt_of_le (X8o hx) (Nat.pow_le_pow_right (by decide) (next h e))
theorem Sol.all {ts:List Ent}{ks:List Int}{x:Nat}(S:Sol ts ks ks.length x)(p:ks.Perm (ts.map fun t=>(bl t.1:Int))):∀ t∈ts,sat x (eqOf t):=fun t ht=>by
 have m:(bl t.1:Int)∈ks:=p.mem_iff.mpr (List.mem_map.mpr ⟨t,ht,rfl⟩)
 obtain⟨i,hi,e⟩:=List.mem_iff_getElem.mp m
 exact S.done t ht i hi (by rw[List.getElem?_eq_getElem hi,e])
end K51
namespace K62T
open PySem PySem.Spec PyProof.Rows L2 Pc K51
def top (i:Nat):Stmt:=PySem.Challenge.pw_spinboard_k62_whole_all_keepers.main.body.getD i (.Pass ⟨0,0,0,0⟩)
structure Bs (mg:Str->Option Value):Prop where
 isinstance:mg "isinstance"=none
 int:mg "int"=none
 bool:mg "bool"=none
 tuple:mg "tuple"=none
 list:mg "list"=none
 len:mg "len"=none
 range:mg "range"=none
 enumerate:mg "enumerate"=none
 sorted:mg "sorted"=none
 sum:mg "sum"=none
 str:mg "str"=none
 all:mg "all"=none
 any:mg "any"=none
 min:mg "min"=none
 max:mg "max"=none
theorem Z8z (m:Nat):Builtin.Int.intBits (m:Int)=bl m:=by
 unfold Builtin.Int.intBits bl
 by_cases h:m=0
 ·subst h;rfl
 ·have hb:((m:Int) == 0)=false:=by simpa using h
  rw[hb,if_neg h]
  simp
abbrev T3 (t:Ent):HO:=.tup [.int t.1,.int t.2.1,.int t.2.2]
def Kept (H:Hp):List (Key × V)->List Ent->Prop:=Paired fun kv t=>kv.1=Sum.inl (bl t.1:Int)/\∃ p,kv.2=.ref p/\H p=some (T3 t)
theorem Kept.same {H H':Hp}{kvs:List (Key × V)}{ts:List Ent}(h:Kept H kvs ts)(s:Same H H'):Kept H' kvs ts :=
 Paired.imp' (fun _ _ ⟨a,p,b,c⟩=>⟨a,p,b,s _ _ c⟩) h
theorem Kept.get {H:Hp}{k:Int}{v:V}:∀ {kvs:List (Key × V)}{ts:List Ent},Kept H kvs ts->valV kvs (Sum.inl k)=some v->∃ t∈ts,∃ p,(bl t.1:Int)=k/\v=.ref p/\H p=some (T3 t)
 | [],[],_,h=>by simp[Y9e] at h
 | kv::kvs,t::ts,.cons ⟨a,p,b,c⟩ r,h=>by
  by_cases e:kv.1=Sum.inl k
  ·rw[Z1x e] at h
   cases h
   rw[a] at e
   exact⟨t,List.mem_cons_self,p,Sum.inl.inj e,b,c⟩
  ·rw[Z1y e] at h
   obtain⟨t',m,q⟩:=Kept.get r h
   exact⟨t',List.mem_cons_of_mem _ m,q⟩
theorem Kept.none {H:Hp}{k:Int}:∀ {kvs:List (Key × V)}{ts:List Ent},Kept H kvs ts->valV kvs (Sum.inl k)=none->∀ t∈ts,(bl t.1:Int)≠k
 | [],[],_,_,t,ht=>by cases ht
 | kv::kvs,t::ts,.cons ⟨a,p,b,c⟩ r,h,t',ht=>by
  by_cases e:kv.1=Sum.inl k
  ·rw[Z1x e] at h
   cases h
  ·rw[Z1y e] at h
   rcases List.mem_cons.mp ht with rfl | ht
   ·intro z
    rw[a,z] at e
    exact e rfl
   ·exact Kept.none r h t' ht
theorem Kept.snoc {H:Hp}{p:Addr}{t:Ent}{kvs:List (Key × V)}{ts:List Ent}(h:Kept H kvs ts)(hp:H p=some (T3 t)):Kept H (kvs++[(Sum.inl (bl t.1:Int),.ref p)]) (ts++[t]) :=
 Paired.snoc h ⟨rfl,p,rfl,hp⟩
theorem Kept.keys {H:Hp}:∀ {kvs:List (Key × V)}{ts:List Ent},Kept H kvs ts->kvs.map (·.1)=(ts.map fun t=>(bl t.1:Int)).map Sum.inl
 | [],[],_=>rfl
 | kv::kvs,t::ts,.cons ⟨a,_⟩ r=>by rw[List.map_cons,List.map_cons,List.map_cons,Kept.keys r,a]
theorem Kept.length {H:Hp}{kvs:List (Key × V)}{ts:List Ent}(h:Kept H kvs ts):kvs.length=ts.length:=Paired.length h
abbrev T2 (e:Eqn):HO:=.tup [.int e.1,.int e.2]
def Eqs (H:Hp):List Addr->List Eqn->Prop:=Paired fun p e=>H p=some (T2 e)
theorem Eqs.same {H H':Hp}{ps:List Addr}{es:List Eqn}(h:Eqs H ps es)(s:Same H H'):Eqs H' ps es:=Paired.imp' (fun _ _ c=>s _ _ c) h
theorem Eqs.length {H:Hp}{ps:List Addr}{es:List Eqn}(h:Eqs H ps es):ps.length=es.length:=Paired.length h
theorem Eqs.get {H:Hp}:∀ {ps:List Addr}{es:List Eqn}{i:Nat}{p:Addr},Eqs H ps es->ps[i]?=some p->∃ e,es[i]?=some e/\H p=some (T2 e)
 | p'::ps,e::es,0,p,.cons a r,h=>by
  have:p'=p:=by simpa using h
  subst this
  exact⟨e,rfl,a⟩
 | p'::ps,e::es,i+1,p,.cons a r,h=>by
  obtain⟨f,b,c⟩:=Eqs.get (ps:=ps) (es:=es) (i:=i) (p:=p) r (by simpa using h)
  exact⟨f,by simpa using b,c⟩
structure Fine (es:List Eqn):Prop where
 bit:∀ e∈es,e.2<2
 mask:∀ e∈es,e.1<2^200
theorem Y0e:∀ (es:List Eqn) (c:Nat),(∀ e∈es,e.1<2^200)->(comb es c).1<2^200
 | [],_,_=>by unfold comb;exact Nat.two_pow_pos 200
 | e::r,c,h=>by
  have ih:=Y0e r (c / 2) fun f hf=>h f (List.mem_cons_of_mem _ hf)
  unfold comb
  split
  ·exact Nat.xor_lt_two_pow (h e List.mem_cons_self) ih
  ·exact ih
def spOnes:Sp:=fun vs H Q _=>∃ n:Nat,vs=[.int n]/\Q (.int (pc n)) H
def Y2q:Sp:=fun vs H Q _=>∃ c:Nat,vs=[.int c]/\c<2^64/\∀ (l:Addr) (H':Hp),Same H H'->H' l=some (.lst ((places c (bl c)).map fun p=>V.int (p:Nat)))->Q (.ref l) H'
def Z9m:Sp:=fun vs H Q _=>∃ (p d:Addr) (t:Ent) (kvs:List (Key × V)) (ts:List Ent) (es:List Eqn) (i:Nat) (e:Eqn),vs=[.ref p,.ref d]/\H p=some (T3 t)/\H d=some (.dK kvs)/\Kept H kvs ts/\Fine es/\Good es i ts/\Left es i ts e t ∧
 ∀ (p':Addr) (H':Hp) (t':Ent),Same H H'->H' p'=some (T3 t')->Left es i ts e t'->(∀ s∈ts,bl s.1≠bl t'.1)->Q (.ref p') H'
section
variable {P:Program}{w:World}{K:PySem.W.Frag}{mg:Str->Option Value}{base:Heap}{k:Nat}{h:Heap}
theorem sc_ones:FnScope ["number","many","rest"] ["number"] (Z0i (top 16)):=fS
theorem X4c (F:FunAt K "ones" (top 16) .none)(X:K.In h)(G:h.Ns mainGlobals mg):Cal P w K mg base (k+1) "ones" ["number"] spOnes:=by
 have nd:=sc_ones.nd
 refine F.cal X G sc_ones (bnd1 fun _ _ _ _ _ _ _=>rfl) (fun vs H Q E h=>?_) (fun f cdv A outer s H vs Q E hr h=>?_)
 ·obtain⟨n,rfl,_⟩:=h;rfl
 obtain⟨n,rfl,q⟩:=h
 refine⟨_,(@Z0e _ _ _ _ _ (@Z0r _ _ 1 _ _ _ _ nd rfl (Or.inl rfl) Z0b rfl (.inl rfl))
  (@Z0e _ _ _ _ _ (@Z0r _ _ 2 _ _ _ _ nd rfl (Or.inl rfl) (pv 0) rfl (.inl rfl))
  (@Z0e _ _ _ _ _ (Z6a PassesOwn.never (Z0o Z5d (pv 2) Z0b (nomark _))
   (@Z0e _ _ _ _ _ (@Z0r _ _ 2 _ _ _ _ nd rfl (Or.inl rfl) (Z0h Z1t (pv 2) (Z0h Z1z (pv 2) Z0b)) rfl (.inl rfl))
   (@Z0g _ _ _ (@Z0r _ _ 1 _ _ _ _ nd rfl (Or.inl rfl) (Z0h Z1c (pv 1) Z0b) rfl (.inl rfl)))))
  (@Z0g _ _ _ (Z0j (pv 1)))))),?_⟩
 try dsimp only[cxK]
 refine⟨_,rfl,fun m σ H'=>H'=H/\∃ j r:Nat,m=pc r/\j+pc r=pc n/\σ=[some (.int n),some (.int j),some (.int r)],⟨_,rfl,0,n,rfl,Nat.zero_add _,rfl⟩,?_⟩
 rintro m σ H' ⟨rfl,j,r,rfl,hj,rfl⟩
 refine⟨_,rfl,rfl,_,rfl,neI (fun hr0=>?_) (fun hr0=>?_)⟩
 ·have r0:r≠0:=by omega
  have e:=Y6m (r+1) r (by omega) r0
  refine⟨_,fun σ' H' x=>x,?_⟩
  refine⟨_,rfl,_,rfl,_,_,rfl,rfl,_,_,rfl,rfl,?_⟩
  refine⟨_,rfl,_,_,rfl,rfl,⟨pc (r&&&(r-1)),by omega,rfl,j+1,r&&&(r-1),rfl,by omega,?_⟩⟩
  have e2:Builtin.bitAnd (r:Int) ((r:Int)-1)=((r&&&(r-1):Nat):Int):=by rw[show (r:Int)-1=((r-1:Nat):Int) by omega,Z5s]
  show [some (V.int n),some (V.int ((j:Int)+1)),some (V.int (Builtin.bitAnd (r:Int) ((r:Int)-1)))]=_
  rw[e2]
  rfl
 ·have r0:r=0:=by omega
  subst r0
  rw[Z2c,Nat.add_zero] at hj
  subst hj
  exact⟨_,rfl,q⟩
theorem sc_cleared:FnScope ["equation","kept","left","other"] ["equation","kept"] (Z0i (top 32)):=fS
theorem Y4u (F:FunAt K "cleared" (top 32) .none)(X:K.In h)(G:h.Ns mainGlobals mg):Cal P w K mg base (k+1) "cleared" ["equation","kept"] Z9m:=by
 have nd:=sc_cleared.nd
 refine F.cal X G sc_cleared (bnd2 fun _ _ _ _ _ _ _ _=>rfl) (fun vs H Q E h=>?_) (fun f cdv A outer s H vs Q E hr h=>?_)
 ·obtain⟨p,d,t,kvs,ts,es,i,e,rfl,_⟩:=h;rfl
 obtain⟨p,d,t,kvs,ts,es,i,e,rfl,hp,hd,hk,fine,gd,lf,kq⟩:=h
 refine⟨_,(@Z0e _ _ _ _ _ (@Z0r _ _ 2 _ _ _ _ nd rfl (Or.inl rfl) (pv 0) rfl (.inl rfl))
  (@Z0e _ _ _ _ _ (Z6a PassesOwn.never (Y6f (X6v (Y1q hr) (Z5b PySem.F.plainAttrs_int PySem.F.slot_int_bit_length PySem.F.type_int_bit_length Z2l (Z0n Z0l (pv 2) Z0b (fun _ _=>rfl))) (pv 1)))
   (@Z0e _ _ _ _ _ (@Z0r _ _ 3 _ _ _ _ nd rfl (Or.inl rfl) (Y6i (Y1q hr) (pv 1) (Z5b PySem.F.plainAttrs_int PySem.F.slot_int_bit_length PySem.F.type_int_bit_length Z2l (Z0n Z0l (pv 2) Z0b (fun _ _=>rfl))) (fun _ _=>rfl)) rfl (.inl rfl))
   (@Z0g _ _ _ (@Z0r _ _ 2 _ _ _ _ nd rfl (Or.inl rfl) (@Z0z _ _ _ _ _ (Z0a (Z0h Z3n (Z0n Z0l (pv 2) Z0b (fun _ _=>rfl)) (Z0n Z0l (pv 3) Z0b (fun _ _=>rfl))) (Z0a (Z0h Z3n (Z0n Z0l (pv 2) Z0b (fun _ _=>rfl)) (Z0n Z0l (pv 3) Z0b (fun _ _=>rfl))) (Z0a (Z0h Z3n (Z0n Z0l (pv 2) Z0b (fun _ _=>rfl)) (Z0n Z0l (pv 3) Z0b (fun _ _=>rfl))) Z0d)))) rfl (.inl rfl)))))
  (@Z0g _ _ _ (Z0j (pv 2))))),?_⟩
 try dsimp only[cxK]
 refine⟨_,rfl,fun m σ H'=>Same H H'/\∃ (q:Addr) (u:Ent) (v:Option V),m=u.1/\H' q=some (T3 u)/\Left es i ts e u/\σ=[some (.ref p),some (.ref d),some (.ref q),v],⟨_,Same.refl _,p,t,none,rfl,hp,lf,rfl⟩,?_⟩
 rintro m σ H1 ⟨s1,q,u,v,rfl,hq,lu,rfl⟩
 have S:∀ {H'},Same H1 H'->SqT K H' q [.int u.1,.int u.2.1,.int u.2.2]:=fun z=>SqT.of (z _ _ hq)
 have eb:=Z8z u.1
 refine⟨_,rfl,q,_,_,_,rfl,rfl,S (Same.refl _),rfl,rfl,_,rfl,rfl,?_⟩
 rw[eb]
 refine⟨_,rfl,d,_,rfl,DGet.k (k:=Sum.inl (bl u.1:Int)) (s1 _ _ hd),_,rfl,?_⟩
 cases hv:valV kvs (Sum.inl (bl u.1:Int)) with
 | none =>
  refine iteF ⟨_,rfl,?_⟩
  exact kq q H1 u s1 hq lu fun s hs z=>hk.none hv s hs (by rw[z])
 | some x =>
  obtain⟨t',ht,p',eh,rfl,hp'⟩:=hk.get hv
  have hp1:=s1 _ _ hp'
  have S':∀ {H'},Same H1 H'->SqT K H' p' [.int t'.1,.int t'.2.1,.int t'.2.2]:=fun z=>SqT.of (z _ _ hp1)
  refine iteT ⟨_,fun σ' H' x=>x,?_⟩
  refine⟨_,rfl,_,rfl,q,_,_,_,rfl,rfl,S (Same.refl _),rfl,rfl,_,rfl,rfl,?_⟩
  rw[eb]
  refine⟨d,_,rfl,(by rw[<-hv];exact DGet.k (k:=Sum.inl (bl u.1:Int)) (s1 _ _ hd)),?_⟩
  refine⟨_,rfl,q,_,_,_,rfl,rfl,S (Same.refl _),rfl,_,rfl,p',_,_,_,rfl,rfl,S' (Same.refl _),rfl,_,_,rfl,rfl,_,rfl,q,_,_,_,rfl,rfl,S (Same.refl _),rfl,_,rfl,p',_,_,_,rfl,rfl,S' (Same.refl _),rfl,_,_,rfl,rfl,_,rfl,q,_,_,_,rfl,rfl,S (Same.refl _),rfl,_,rfl,p',_,_,_,rfl,rfl,S' (Same.refl _),rfl,_,_,rfl,rfl,(by show 3<=sizeLine;decide),fun r hr=>?_⟩
  have eh':bl u.1=bl t'.1:=(Int.ofNat.inj eh).symm
  have u0:u.1≠0:=fun z=>gd.nz t' ht (bl_zero.mp (by rw[<-eh',z];rfl))
  refine⟨u.1^^^t'.1,Y9d eh' u0,s1.trans (Z0f hr _),r,(u.1^^^t'.1,u.2.1^^^t'.2.1,u.2.2^^^t'.2.2),_,rfl,?_,lu.step fine.bit gd ht,rfl⟩
  rw[Z0c]
  show some (HO.tup [.int (Builtin.bitXor (u.1:Int) t'.1),.int (Builtin.bitXor (u.2.1:Int) t'.2.1),.int (Builtin.bitXor (u.2.2:Int) t'.2.2)])=_
  rw[Z4p,Z4p,Z4p]
def Z7j:Sp:=fun vs H Q _=>∃ (d:Addr) (kvs:List (Key × V)) (ts:List Ent) (es:List Eqn) (i:Nat),vs=[.ref d]/\H d=some (.dK kvs)/\Kept H kvs ts/\Fine es/\Good es i ts/\i<=60 ∧
 ∀ (x:Nat) (H':Hp),Same H H'->(∀ t∈ts,sat x (eqOf t))->Q (.int x) H'
def Told (es:List Eqn)(H:Hp)(r:Addr):Prop:=(∃ x:Nat,H r=some (.tup [.int x,.non])/\∀ e∈es,sat x e) ∨
 ∃ (c:Nat) (q:Addr),H r=some (.tup [.non,.ref q])/\H q=some (.lst ((places c (bl c)).map fun p=>V.int (p:Nat)))/\c<2^es.length/\comb es c=(0,1)
def Y2o (K:PySem.W.Frag):Sp:=fun vs H Q _=>∃ (l:Addr) (ps:List Addr) (es:List Eqn),vs=[.ref l]/\SqL K H l (ps.map V.ref)/\Eqs H ps es/\Fine es/\es.length<=60 ∧
 ∀ (r:Addr) (H':Hp),Same H H'->Told es H' r->Q (.ref r) H'
theorem or_i (x y:Nat):Builtin.bitOr (x:Int) (y:Int)=((x ||| y:Nat):Int):=by
 have h:Builtin.bitXor (x:Int) (y:Int)=Builtin.bitOr x y-Builtin.bitAnd x y:=rfl
 rw[Z4p,Z5s] at h
 have e:=Y6o (x+y+1) x y (by omega) (by omega)
 omega
theorem Z3z (x y:Nat):[V.int (Builtin.bitAnd (x:Int) (y:Int))]=[V.int ((x&&&y:Nat):Int)]:=by rw[Z5s]
theorem Z2p:(0:Int)<2:=by decide
theorem sz1:Sz 1 1:=by decide +kernel
theorem Kept.upd {H:Hp}{d:Addr}{kv0 kv1 kvs:List (Key × V)}{ts:List Ent}(h:Kept H kvs ts)(hd:H d=some (.dK kv0)):Kept (upd H d (.dK kv1)) kvs ts :=
 Paired.imp' (fun _ _ ⟨a,p,b,c⟩=>⟨a,p,b,by rw[Z0x (Z5o c hd (by intro z;cases z))];exact c⟩) h
theorem t2:2<=sizeLine:=by decide
theorem Z2e:(0:Int)<4:=by decide
theorem s64 {n:Nat}(h:n<=64):n<=sizeLine:=Nat.le_trans h (by decide)
theorem sc_places:FnScope ["number"] ["number"] (Z0i (top 33)):=fS
theorem Y6u (F:FunAt K "places_at_one" (top 33) .none)(X:K.In h)(G:h.Ns mainGlobals mg)(B:Bs mg):Cal P w K mg base (k+1) "places_at_one" ["number"] Y2q:=by
 have nd:=sc_places.nd
 refine F.cal X G sc_places (bnd1 fun _ _ _ _ _ _ _=>rfl) (fun vs H Q E h=>?_) (fun f cdv A outer s H vs Q E hr h=>?_)
 ·obtain⟨n,rfl,_⟩:=h;rfl
 obtain⟨c,rfl,hc,kq⟩:=h
 have hb:bl c<=64:=bl_le.mpr hc
 refine⟨_,(@Z0g _ _ _ (Z0j (Y3f rfl (LcOk.of (Nc:=["place","number"]) (mp:=[none,some 0]) (by kernel_rfl)) (Z0w rfl B.range (Z0a (Z5b PySem.F.plainAttrs_int PySem.F.slot_int_bit_length PySem.F.type_int_bit_length Z2l (pv 0)) Z0d)) (fun _ _ _ _=>(Z0m (i:=0) (show (["place","number"]:List Str).Nodup by decide +kernel) rfl (Or.inl rfl))) (fun _ _ _ _=>(Z8k (Z0h Z1t (Z0h Z4h (pv 1) (pv 0)) Z0b) (by intro _;rfl))) (fun _ _ _ _=>(pv 0))))),?_⟩
 try dsimp only[cxK]
 refine⟨_,rfl,rfl,_,rfl,rfl,?_⟩
 rw[Z8z]
 refine⟨_,rfl,by omega,by omega,fun acc hacc=>?_⟩
 rw[Int.toNat_natCast]
 refine Z5h (n:=bl c) (fr:=[some (.int c)]) (fun i ys H'=>Same H H'/\H' acc=some (.lst ys)/\ys=(places c i).map fun p=>V.int (p:Nat)) (s64 hb) ⟨Z0f hacc _,Z0c,rfl⟩ ?_ (fun hm z=>?_) ?_
 ·rintro i ys H2 N hi hl ⟨s2,a2,rfl⟩ kN
  refine⟨_,rfl,_,rfl,_,_,rfl,rfl,by omega,_,_,rfl,rfl,_,rfl,?_⟩
  have e0:(0:Int)+(i:Int)=(i:Int):=Int.zero_add _
  have e1:(c:Int) / 2^(0+(i:Int)).toNat=((c / 2^i:Nat):Int):=by rw[e0,Int.toNat_natCast];simp
  have e2:Builtin.bitAnd ((c / 2^i:Nat):Int) 1=((c / 2^i%2:Nat):Int):=by
   have:=Z5s (c / 2^i) 1
   rw[Nat.and_one_is_mod] at this
   exact this
  have ps:=Z3e c i
  rw[e1,e2]
  refine kN _ _ (fun hb1=>?_) (fun hb0=>?_)
  ·have h1:c / 2^i%2=1:=by
    have:c / 2^i%2≠0:=fun z=>by rw[z] at hb1;cases hb1
    omega
   rw[if_pos h1] at ps
   refine⟨_,rfl,a2,Z0s s2 hacc,Z0c,?_⟩
   rw[ps,List.map_append,e0]
   rfl
  ·have h0:¬ c / 2^i%2=1:=fun z=>by rw[z] at hb0;cases hb0
   rw[if_neg h0,List.append_nil] at ps
   exact⟨s2,a2,by rw[ps]⟩
 ·obtain⟨v,e,q⟩:=z
  exact⟨v,e,hm _ _ q⟩
 ·rintro ys H2 ⟨s2,a2,rfl⟩
  exact kq acc H2 s2 a2
theorem sc_solution:FnScope ["kept","x","height","equation"] ["kept"] (Z0i (top 34)):=fS
theorem Y1h (F:FunAt K "solution" (top 34) .none)(X:K.In h)(G:h.Ns mainGlobals mg)(B:Bs mg)(c_ones:Cal P w K mg base k "ones" ["number"] spOnes):Cal P w K mg base (k+1) "solution" ["kept"] Z7j:=by
 have nd:=sc_solution.nd
 refine F.cal X G sc_solution (bnd1 fun _ _ _ _ _ _ _=>rfl) (fun vs H Q E h=>?_) (fun f cdv A outer s H vs Q E hr h=>?_)
 ·obtain⟨d,kvs,ts,es,i,rfl,_⟩:=h;rfl
 obtain⟨d,kvs,ts,es,i,rfl,hd,hk,fine,gd,hi,kq⟩:=h
 have hlen:=hk.length
 have glen:=gd.len
 refine⟨_,(@Z0e _ _ _ _ _ (@Z0r _ _ 1 _ _ _ _ nd rfl (Or.inl rfl) Z0b rfl (.inl rfl))
  (@Z0e _ _ _ _ _ (Z1p PassesOwn.never rfl (Z1d (Z0q (Y0g rfl) rfl B.sorted boot_sorted (Z0a (pv 0) Z0d))) (Z0m (i:=2) nd rfl (Or.inl rfl))
   (@Z0e _ _ _ _ _ (@Z0r _ _ 3 _ _ _ _ nd rfl (Or.inl rfl) (Y6i (Y1q hr) (pv 0) (pv 2) (fun _ _=>rfl)) rfl (.inl rfl))
   (@Z0g _ _ _ (Z0y (Z0o Z5d (Z0h Z0u (Z0k c_ones hr rfl (Z0a (Z0h Z1t (Z0n Z0l (pv 3) Z0b (fun _ _=>rfl)) (pv 1)) Z0d)) Z0b) (Z0n Z0l (pv 3) Z0b (fun _ _=>rfl)) (nomark _))
    (@Z0g _ _ _ (@Z0r _ _ 1 _ _ _ _ nd rfl (Or.inl rfl) (Z0h Y1f (pv 1) (Z0h Z1r Z0b (Z0h Z1z (pv 2) Z0b))) rfl (.inl rfl)))
    Z0p))))
  (@Z0g _ _ _ (Z0j (pv 1))))),?_⟩
 try dsimp only[cxK]
 refine⟨_,rfl,d,kvs,_,rfl,hd,hk.keys,by omega,fun l ks hl perm srt=>?_⟩
 have S0:=Z0f hl (.lst (ks.map V.int))
 have o:=X5k gd.nd perm srt
 refine⟨l,rfl,⟨_,SqL.of Z0c⟩,Z2o (K:=K) (a:=l) (xs:=ks.map V.int) (fun j σ H'=>Same (upd H l (.lst (ks.map V.int))) H'/\∃ (x:Nat) (v2 v3:Option V),Sol ts ks j x/\σ=[some (.ref d),some (.int x),v2,v3]) ⟨Same.refl _,0,none,none,Sol.start ts ks,rfl⟩ (fun j σ H' _ e=>SqL.of (e.1 _ _ Z0c)) ?_ ?_⟩
 ·rintro j xv σ H1 hx ⟨s1,x,v2,v3,S,rfl⟩
  rw[List.getElem?_map] at hx
  obtain⟨hh,hj,rfl⟩:=Option.map_eq_some_iff.mp hx
  have hm:hh∈ts.map fun t=>(bl t.1:Int):=perm.mem_iff.mp (List.mem_of_getElem? hj)
  obtain⟨t0,ht0,rfl⟩:=List.mem_map.mp hm
  have H1d:=s1 _ _ (S0 _ _ hd)
  have hk1:=(hk.same S0).same s1
  cases hv:valV kvs (Sum.inl (bl t0.1:Int)) with
  | none=>exact absurd rfl (hk1.none hv t0 ht0)
  | some v =>
   obtain⟨t,ht,p,eh,rfl,hp⟩:=hk1.get hv
   have hb:t.2.1<2:=by
    have:(eqOf t).2<2:=by rw[<-gd.com t ht];exact Z5j es _ fine.bit
    exact this
   have hmask:t.1<2^200:=by
    have:(eqOf t).1<2^200:=by rw[<-gd.com t ht];exact Y0e es _ fine.mask
    exact this
   have hbl:bl t.1<=200:=bl_le.mpr hmask
   have h0:bl t.1≠0:=fun z=>gd.nz t ht (bl_zero.mp z)
   rw[<-eh] at hj hv ⊢
   have st:=S.step gd.nd o ht (gd.nz t ht) hb hj
   have ST:SqT K H1 p [.int t.1,.int t.2.1,.int t.2.2]:=SqT.of hp
   refine⟨_,rfl,_,rfl,d,_,rfl,(by rw[<-hv];exact DGet.k (k:=Sum.inl (bl t.1:Int)) H1d),?_⟩
   refine⟨_,rfl,p,_,_,_,rfl,rfl,ST,rfl,_,rfl,_,_,rfl,rfl,t.1&&&x,Z3z _ _,_,_,rfl,rfl,Z2p,_,rfl,p,_,_,_,rfl,rfl,ST,rfl,rfl,_,rfl,neI (fun ne=>?_) (fun eq=>?_)⟩
   ·have hn:¬ sat x (eqOf t):=fun z=>ne (by show ((pc (t.1&&&x):Nat):Int)%2=(t.2.1:Int);have:pc (t.1&&&x)%2=t.2.1:=z;omega)
    refine⟨_,rfl,_,rfl,_,_,rfl,rfl,_,_,rfl,rfl,⟨1,sz1,by omega,by omega⟩,_,_,rfl,rfl,s1,x ||| 2^(bl t.1-1),some (V.int (bl t.1:Int)),some (V.ref p),st.2 hn,?_⟩
    have e1:(1:Int)*2^((bl t.1:Int)-1).toNat=((2^(bl t.1-1):Nat):Int):=by
     rw[show ((bl t.1:Int)-1).toNat=bl t.1-1 by omega];simp
    show [some (V.ref d),some (V.int (Builtin.bitOr (x:Int) (1*2^((bl t.1:Int)-1).toNat))),some (V.int (bl t.1:Int)),some (V.ref p)]=_
    rw[e1,or_i]
   ·have hs:sat x (eqOf t):=by
     show pc (t.1&&&x)%2=t.2.1
     have:((pc (t.1&&&x):Nat):Int)%2=(t.2.1:Int):=eq
     omega
    exact⟨s1,x,_,_,st.1 hs,rfl⟩
 ·rintro σ H1 ⟨s1,x,v2,v3,S,rfl⟩
  rw[List.length_map] at S
  exact⟨_,rfl,kq x H1 (S0.trans s1) (S.all perm)⟩
theorem sc_solved:FnScope ["equations","kept","place","equation","left"] ["equations"] (Z0i (top 31)):=fS
theorem Y6r (F:FunAt K "solved" (top 31) .none)(X:K.In h)(G:h.Ns mainGlobals mg)(B:Bs mg)(c_cleared:Cal P w K mg base k "cleared" ["equation","kept"] Z9m)(c_places_at_one:Cal P w K mg base k "places_at_one" ["number"] Y2q)(c_solution:Cal P w K mg base k "solution" ["kept"] Z7j):Cal P w K mg base (k+1) "solved" ["equations"] (Y2o K):=by
 have nd:=sc_solved.nd
 refine F.cal X G sc_solved (bnd1 fun _ _ _ _ _ _ _=>rfl) (fun vs H Q E h=>?_) (fun f cdv A outer s H vs Q E hr h=>?_)
 ·obtain⟨l,ps,es,rfl,_⟩:=h;rfl
 obtain⟨l,ps,es,rfl,hS,he,fine,h60,kq⟩:=h
 have hlen:=he.length
 refine⟨_,(@Z0e _ _ _ _ _ (@Z0r _ _ 1 _ _ _ _ nd rfl (Or.inl rfl) Y9v rfl (.inl rfl))
  (@Z0e _ _ _ _ _ (Z1p PassesOwn.never rfl (Z5m rfl B.enumerate (Z0a (pv 0) Z0d)) (@Z4n _ _ _ _ _ _ rfl (@Z1b _ _ _ _ _ (@Z0m _ _ 2 _ nd rfl (Or.inl rfl) (by first | exact .inl rfl | exact .inr rfl)) (@Z1b _ _ _ _ _ (@Z0m _ _ 3 _ nd rfl (Or.inl rfl) (by first | exact .inl rfl | exact .inr rfl)) Z3j rfl) rfl) rfl rfl)
   (@Z0e _ _ _ _ _ (@Z0r _ _ 4 _ _ _ _ nd rfl (Or.inl rfl) (Z0k c_cleared hr rfl (Z0a (@Z0z _ _ _ _ _ (Z0a (Z0n Z0l (pv 3) Z0b (fun _ _=>rfl)) (Z0a (Z0n Z0l (pv 3) Z0b (fun _ _=>rfl)) (Z0a (Z0h Z1r Z0b (pv 2)) Z0d)))) (Z0a (pv 1) Z0d))) rfl (.inl rfl))
   (@Z0g _ _ _ (Z0y (Z0o Z5d (Z0n Z0l (pv 4) Z0b (fun _ _=>rfl)) Z0b (nomark _))
    (@Z0g _ _ _ (Y6g (Y1q hr) (pv 1) (Z5b PySem.F.plainAttrs_int PySem.F.slot_int_bit_length PySem.F.type_int_bit_length Z2l (Z0n Z0l (pv 4) Z0b (fun _ _=>rfl))) (pv 4) rfl))
    (@Z0g _ _ _ (Z0y (Z0o Z1u (Z0n Z0l (pv 4) Z0b (fun _ _=>rfl)) Z0b (nomark _))
     (@Z0g _ _ _ (Z0j (@Z0z _ _ _ _ _ (Z0a Z9r (Z0a (Z0k c_places_at_one hr rfl (Z0a (Z0n Z0l (pv 4) Z0b (fun _ _=>rfl)) Z0d)) Z0d)))))
     Z0p))))))
  (@Z0g _ _ _ (Z0j (@Z0z _ _ _ _ _ (Z0a (Z0k c_solution hr rfl (Z0a (pv 1) Z0d)) (Z0a Z9r Z0d))))))),?_⟩
 try dsimp only[cxK]
 refine fun d hd=>?_
 refine⟨_,rfl,l,_,rfl,(Z0f hd _).seq hS,Y3w (K:=K) (a:=l) (xs:=ps.map V.ref) (fun i σ H'=>Same H H'/\∃ (kvs:List (Key × V)) (ts:List Ent) (v2 v3 v4:Option V),H' d=some (.dK kvs)/\Kept H' kvs ts/\Good es i ts/\σ=[some (.ref l),some (.ref d),v2,v3,v4])
  ⟨Z0f hd _,[],[],none,none,none,Z0c,.nil,Good.start es,rfl⟩ (fun i σ H' _ e=>e.1.seq hS) ?_ ?_⟩
 ·rintro i x σ H1 T hx ⟨s1,kvs,ts,v2,v3,v4,hd1,hk,gd,rfl⟩ hT
  rw[List.getElem?_map] at hx
  obtain⟨p,hp,rfl⟩:=Option.map_eq_some_iff.mp hx
  obtain⟨e,ei,hpe⟩:=he.get hp
  have ilt:i<es.length:=(List.getElem?_eq_some_iff.mp ei).1
  have sT:=Z0f hT (.tup [.int i,.ref p])
  have hpe1:=sT _ _ (s1 _ _ hpe)
  have SP:SqT K (upd H1 T (.tup [.int i,.ref p])) p [.int e.1,.int e.2]:=SqT.of hpe1
  refine⟨T,_,rfl,SqT.of Z0c,rfl,_,_,rfl,_,_,rfl,rfl,?_⟩
  refine⟨_,rfl,p,_,_,_,rfl,rfl,SP,rfl,_,rfl,p,_,_,_,rfl,rfl,SP,rfl,_,rfl,_,_,rfl,rfl,⟨1,sz1,by omega,by omega⟩,(by show 3<=sizeLine;decide),fun r hr=>?_⟩
  have sr:=Z0f hr (.tup [.int e.1,.int e.2,.int ((1:Int)*2^((i:Int)).toNat)])
  have e1:(1:Int)*2^((i:Int)).toNat=((2^i:Nat):Int):=by simp
  have hrt:upd (upd H1 T (.tup [.int i,.ref p])) r (.tup [.int e.1,.int e.2,.int ((1:Int)*2^((i:Int)).toNat)]) r=some (T3 (e.1,e.2,2^i)):=by rw[Z0c,e1]
  refine⟨_,rfl,r,d,(e.1,e.2,2^i),kvs,ts,es,i,e,rfl,hrt,sr _ _ (sT _ _ hd1),(hk.same sT).same sr,fine,gd,Left.start ei,fun p' H2 t s2 hp' lf apart=>?_⟩
  have sH2:=((s1.trans sT).trans sr).trans s2
  have hd2:=s2 _ _ (sr _ _ (sT _ _ hd1))
  have hk2:=((hk.same sT).same sr).same s2
  have SL:SqT K H2 p' [.int t.1,.int t.2.1,.int t.2.2]:=SqT.of hp'
  refine⟨_,rfl,p',_,_,_,rfl,rfl,SL,rfl,rfl,_,rfl,neI (fun ne=>?_) (fun eq=>?_)⟩
  ·have t0:t.1≠0:=fun z=>ne (by rw[z];rfl)
   refine⟨_,rfl,_,rfl,_,rfl,p',_,_,_,rfl,rfl,SL,rfl,rfl,_,rfl,rfl,?_⟩
   rw[Z8z]
   have hn:valV kvs (Sum.inl (bl t.1:Int))=none:=by
    cases hv:valV kvs (Sum.inl (bl t.1:Int)) with
    | none=>rfl
    | some v =>
     obtain⟨u,hu,q,eh,_⟩:=hk2.get hv
     exact absurd (Int.ofNat.inj eh) (apart u hu)
   have hkl:=hk.length
   have hgl:=gd.len
   refine⟨d,_,rfl,DPut.k (k:=Sum.inl (bl t.1:Int)) hd2 (Nat.lt_of_lt_of_le (show kvs.length<64 by omega) (by decide)),Z0s sH2 hd,_,ts++[t],some (V.int i),some (V.ref p),some (V.ref p'),Z0c,?_,gd.put ei lf t0 apart,rfl⟩
   rw[Y9q _ hn]
   exact(hk2.upd hd2).snoc (by rw[Z0x (Z5o hp' hd2 (by intro z;cases z))];exact hp')
  ·have t0:t.1=0:=Int.ofNat.inj eq
   have tb:=lf.bit fine.bit
   refine⟨_,rfl,p',_,_,_,rfl,rfl,SL,rfl,rfl,_,rfl,eqI (fun e1'=>?_) (fun e1'=>?_)⟩
   ·have b1:t.2.1=1:=Int.ofNat.inj e1'
    have clt:t.2.2<2^es.length:=Nat.lt_of_lt_of_le lf.lt (Nat.pow_le_pow_right (by decide) ilt)
    refine⟨_,rfl,p',_,_,_,rfl,rfl,SL,rfl,t.2.2,rfl,Nat.lt_of_lt_of_le clt (Nat.pow_le_pow_right (by decide) (by omega)),fun ql H3 s3 hl3=>⟨t2,fun rr hrr=>?_⟩⟩
    refine kq rr _ ((sH2.trans s3).trans (Z0f hrr _)) (.inr ⟨t.2.2,ql,Z0c,Z0f hrr _ _ _ hl3,clt,?_⟩)
    rw[lf.com]
    show (t.1,t.2.1)=_
    rw[t0,b1]
   ·have b0:t.2.1=0:=by
     have:¬ t.2.1=1:=fun z=>e1' (by rw[z];rfl)
     omega
    exact⟨sH2,kvs,ts,some (V.int i),some (V.ref p),some (V.ref p'),hd2,hk2,gd.skip ei lf t0 b0,rfl⟩
 ·rintro σ H1 ⟨s1,kvs,ts,v2,v3,v4,hd1,hk,gd,rfl⟩
  rw[List.length_map,hlen] at gd
  refine⟨_,rfl,d,kvs,ts,es,es.length,rfl,hd1,hk,fine,gd,h60,fun x H2 s2 hs=>⟨t2,fun r hr=>?_⟩⟩
  refine kq r _ ((s1.trans s2).trans (Z0f hr _)) (.inl ⟨x,Z0c,fun e he'=>?_⟩)
  obtain⟨j,hj,rfl⟩:=List.mem_iff_getElem.mp he'
  exact gd.all x hs j _ hj (List.getElem?_eq_getElem hj)
end
end K62T
namespace M54
open Pc K51
def bit (v n:Nat):Nat:=v / 2^n%2
theorem Z1k (v n:Nat):bit v n<2:=Nat.mod_lt _ (by decide)
theorem Z5k (v n:Nat):bit v (n+1)=bit (v / 2) n:=by
 unfold bit
 rw[Nat.pow_succ',Nat.div_div_eq_div_mul]
theorem Z2u (n:Nat):bit 0 n=0:=by unfold bit;simp
theorem Z2g:∀ (n a b:Nat),bit (a^^^b) n=(bit a n+bit b n)%2
 | 0,a,b=>by
  have:=Z3r a b
  unfold bit
  simp only[Nat.pow_zero,Nat.div_one]
  omega
 | n+1,a,b=>by
  have:=Z3r a b
  rw[Z5k,Z5k,Z5k,show (a^^^b) / 2=a / 2^^^b / 2 by omega]
  exact Z2g n _ _
theorem Z2q:∀ (N a b:Nat),a<2^N->b<2^N->(∀ n,n<N->bit a n=bit b n)->a=b
 | 0,a,b,ha,hb,_=>by simp at ha hb;omega
 | N+1,a,b,ha,hb,h=>by
  rw[Nat.pow_succ'] at ha hb
  have h0:=h 0 (Nat.succ_pos N)
  unfold bit at h0
  simp only[Nat.pow_zero,Nat.div_one] at h0
  have:=Z2q N (a / 2) (b / 2) (by omega) (by omega) fun n hn=>by rw[<-Z5k,<-Z5k];exact h (n+1) (by omega)
  omega
theorem Z4j {a m n:Nat}(h:a<2^m)(hm:m<=n):bit a n=0:=by
 unfold bit
 rw[Nat.div_eq_of_lt (Nat.lt_of_lt_of_le h (Nat.pow_le_pow_right (by decide) hm))]
theorem X5t (m n:Nat):bit (2^m) n=if n=m then 1 else 0:=by
 unfold bit
 by_cases h:n=m
 ·subst h;rw[if_pos rfl,Nat.div_self (Nat.two_pow_pos n)]
 ·rw[if_neg h]
  rcases Nat.lt_or_ge n m with c | c
  ·obtain⟨d,rfl⟩:∃ d,m=n+(d+1):=⟨m-n-1,by omega⟩
   rw[Nat.pow_add,Nat.mul_div_cancel_left _ (Nat.two_pow_pos n),Nat.pow_succ,Nat.mul_mod_left]
  ·rw[Nat.div_eq_of_lt (Nat.pow_lt_pow_right (by decide) (by omega))]
theorem X5w (x m:Nat):x&&&2^m=bit x m*2^m:=by
 refine Nat.eq_of_testBit_eq fun j=>?_
 rw[Nat.testBit_and,Nat.testBit_two_pow]
 by_cases q:m=j
 ·subst q
  rw[Nat.testBit_eq_decide_div_mod_eq,Nat.testBit_eq_decide_div_mod_eq,Nat.mul_div_cancel _ (Nat.two_pow_pos m)]
  show (decide (bit x m=1) && decide (m=m))=decide (bit x m%2=1)
  rw[Nat.mod_eq_of_lt (Z1k x m)]
  simp
 ·rcases (by have:=Z1k x m;omega:bit x m=0∨bit x m=1) with z | z<;>rw[z]<;>simp[q]
theorem Y6j {a m x b:Nat}(ha:a<2^m)(hb:b<2):pc ((a+b*2^m)&&&x)%2=(pc (a&&&x)+b*bit x m)%2:=by
 rcases (by omega:b=0∨b=1) with rfl | rfl
 ·simp
 ·rw[Nat.one_mul,<-K51.Y0u ha,Nat.and_xor_distrib_right,pcx,Nat.and_comm (2^m),X5w]
  rcases (by have:=Z1k x m;omega:bit x m=0∨bit x m=1) with z | z<;>rw[z]
  ·rw[Nat.zero_mul,Z2c,Nat.mul_zero]
  ·rw[Nat.one_mul,Y6k]
def Wm (fs:List Nat)(n:Nat):Nat->Nat
 | 0=>0
 | m+1=>Wm fs n m+bit (fs.getD m 0) n*2^m
def Xm (fs:List Nat)(x:Nat):Nat->Nat
 | 0=>0
 | m+1=>if bit x m=1 then Xm fs x m^^^fs.getD m 0 else Xm fs x m
theorem Y9b (fs:List Nat)(n:Nat):∀ m,Wm fs n m<2^m
 | 0=>by unfold Wm;decide
 | m+1=>by
  have h:=Y9b fs n m
  have b:=Z1k (fs.getD m 0) n
  unfold Wm
  rw[Nat.pow_succ']
  rcases (by omega:bit (fs.getD m 0) n=0∨bit (fs.getD m 0) n=1) with z | z<;>rw[z]<;>omega
theorem X1t {fs:List Nat}{x N:Nat}(h:∀ j,fs.getD j 0<2^N):∀ m,Xm fs x m<2^N
 | 0=>by unfold Xm;exact Nat.two_pow_pos N
 | m+1=>by
  unfold Xm
  split
  ·exact Nat.xor_lt_two_pow (X1t h m) (h m)
  ·exact X1t h m
theorem X3i (fs:List Nat)(x n:Nat):∀ m,bit (Xm fs x m) n=pc (Wm fs n m&&&x)%2
 | 0=>by unfold Xm Wm;rw[Z2u,Nat.zero_and,Z2c]
 | m+1=>by
  have ih:=X3i fs x n m
  have bl:=Z1k x m
  unfold Xm Wm
  rw[Y6j (Y9b fs n m) (Z1k _ _)]
  split
  ·rename_i z
   rw[Z2g,ih,z]
   omega
  ·rename_i z
   rw[ih,show bit x m=0 by omega]
   omega
theorem Y9c (fs:List Nat)(n:Nat):∀ m j,j<m->bit (Wm fs n m) j=bit (fs.getD j 0) n
 | 0,j,h=>by omega
 | m+1,j,h=>by
  have hw:=Y9b fs n m
  have b:=Z1k (fs.getD m 0) n
  unfold Wm
  rcases (by omega:bit (fs.getD m 0) n=0∨bit (fs.getD m 0) n=1) with z | z
  ·rw[z,Nat.zero_mul,Nat.add_zero]
   by_cases q:j=m
   ·subst q;rw[z,Z4j hw (Nat.le_refl _)]
   ·exact Y9c fs n m j (by omega)
  ·rw[z,Nat.one_mul,<-K51.Y0u hw,Z2g,X5t]
   by_cases q:j=m
   ·subst q;rw[if_pos rfl,z,Z4j hw (Nat.le_refl _)]
   ·rw[if_neg q,Y9c fs n m j (by omega),Nat.add_zero,Nat.mod_eq_of_lt (Z1k _ _)]
theorem X2w (fs:List Nat)(n:Nat):∀ m,m<=fs.length->((fs.take m).mapIdx fun i v=>((bit v n:Nat):Int)*2^i).sum=((Wm fs n m:Nat):Int)
 | 0,_=>by simp[Wm]
 | m+1,h=>by
  have ih:=X2w fs n m (by omega)
  have e:fs[m]?=some (fs.getD m 0):=by rw[List.getD_eq_getElem?_getD,List.getElem?_eq_getElem (by omega)];rfl
  have l:(fs.take m).length=m:=by rw[List.length_take];omega
  unfold Wm
  rw[List.take_add_one,e,Option.toList_some,List.mapIdx_append,List.sum_append,ih,l]
  simp
def eqs (fs:List Nat)(v N:Nat):List Eqn:=(List.range N).map fun n=>(Wm fs n fs.length,bit v n)
theorem Z5r (fs:List Nat)(v N:Nat):(eqs fs v N).length=N:=by unfold eqs;simp
theorem Z3t:∀ (l r:List Eqn) (c:Nat),comb (l++r) c=add (comb l c) (comb r (c / 2^l.length))
 | [],r,c=>by simp[comb,add]
 | e::l,r,c=>by
  have ih:=Z3t l r (c / 2)
  have e1:c / 2 / 2^l.length=c / 2^(e::l).length:=by rw[List.length_cons,Nat.pow_succ',Nat.div_div_eq_div_mul]
  show (if c%2=1 then add e (comb (l++r) (c / 2)) else comb (l++r) (c / 2))=add (if c%2=1 then add e (comb l (c / 2)) else comb l (c / 2)) _
  rw[ih,e1]
  split
  ·rw[Z3b]
  ·rfl
theorem Z6d (fs:List Nat)(v N:Nat):eqs fs v (N+1)=eqs fs v N++[(Wm fs N fs.length,bit v N)]:=by
 unfold eqs;rw[List.range_succ,List.map_append];rfl
theorem Z6c (c N:Nat):c%2^(N+1)=c%2^N+bit c N*2^N:=by rw[Nat.pow_succ,Nat.mod_mul];unfold bit;rw[Nat.mul_comm (2^N)]
theorem Y4d (e:Eqn)(c:Nat):comb [e] c=if c%2=1 then e else (0,0):=by
 unfold comb comb
 split<;>simp[add]
theorem Z8u (fs:List Nat)(v c:Nat):∀ N,(comb (eqs fs v N) c).2=pc (c%2^N&&&v)%2
 | 0=>by simp[eqs,comb,Nat.mod_one,Z2c]
 | N+1=>by
  have ih:=Z8u fs v c N
  have hb:=Z1k c N
  have hv:=Z1k v N
  rw[Z6d,Z3t,Z5r,Y4d,Z6c,Y6j (Nat.mod_lt _ (Nat.two_pow_pos N)) hb]
  show (comb (eqs fs v N) c).2^^^(if c / 2^N%2=1 then (Wm fs N fs.length,bit v N) else (0,0)).2=_
  rw[ih]
  have nx:=Z3r (pc (c%2^N&&&v)%2) (bit v N)
  have z1:pc (c%2^N&&&v)%2 / 2=0:=by omega
  have z2:bit v N / 2=0:=by omega
  rw[z1,z2] at nx
  have q:(0^^^0:Nat)=0:=rfl
  rcases (by omega:bit c N=0∨bit c N=1) with z | z
  ·rw[if_neg (show ¬ c / 2^N%2=1 by have:c / 2^N%2=0:=z;omega),z]
   simp
  ·rw[if_pos (show c / 2^N%2=1 from z),z]
   show _^^^bit v N=_
   omega
theorem Z8v (fs:List Nat)(v c j:Nat)(hj:j<fs.length):∀ N,bit (comb (eqs fs v N) c).1 j=pc (c%2^N&&&fs.getD j 0)%2
 | 0=>by simp[eqs,comb,Nat.mod_one,Z2c,Z2u]
 | N+1=>by
  have ih:=Z8v fs v c j hj N
  have hb:=Z1k c N
  have wb:=Y9c fs N fs.length j hj
  rw[Z6d,Z3t,Z5r,Y4d,Z6c,Y6j (Nat.mod_lt _ (Nat.two_pow_pos N)) hb]
  show bit ((comb (eqs fs v N) c).1^^^(if c / 2^N%2=1 then (Wm fs N fs.length,bit v N) else (0,0)).1) j=_
  rw[Z2g,ih]
  rcases (by omega:bit c N=0∨bit c N=1) with z | z
  ·rw[if_neg (show ¬ c / 2^N%2=1 by have:c / 2^N%2=0:=z;omega),z,Z2u]
   omega
  ·rw[if_pos (show c / 2^N%2=1 from z),z,wb]
   omega
abbrev Mk:=Nat × Nat × Nat
def mul (a b:Mk):Mk:=((a.1+b.1+2*pc (a.2.2&&&b.2.1))%4,a.2.1^^^b.2.1,a.2.2^^^b.2.2)
def prod (ms:List Mk):Mk:=ms.foldl mul (0,0,0)
theorem Z9y (k:Nat):∀ (ms:List Mk) (q f s:Nat),ms.foldl mul ((k+q)%4,f,s)=((k+(ms.foldl mul (q%4,f,s)).1)%4,(ms.foldl mul (q%4,f,s)).2)
 | [],q,f,s=>by
  show ((k+q)%4,f,s)=((k+q%4)%4,f,s)
  rw[Nat.add_mod_mod]
 | m::ms,q,f,s=>by
  rw[List.foldl_cons,List.foldl_cons]
  have h:=Z9y k ms (q+m.1+2*pc (s&&&m.2.1)) (f^^^m.2.1) (s^^^m.2.2)
  have e1:mul ((k+q)%4,f,s) m=((k+(q+m.1+2*pc (s&&&m.2.1)))%4,f^^^m.2.1,s^^^m.2.2):=by
   show (((k+q)%4+m.1+2*pc (s&&&m.2.1))%4,_,_)=_
   congr 1
   omega
  have e2:mul (q%4,f,s) m=((q+m.1+2*pc (s&&&m.2.1))%4,f^^^m.2.1,s^^^m.2.2):=by
   show ((q%4+m.1+2*pc (s&&&m.2.1))%4,_,_)=_
   congr 1
   omega
  rw[e1,e2]
  exact h
theorem Z5l {k:Nat}(hk:k<4)(ms:List Mk):ms.foldl mul (k,0,0)=((k+(prod ms).1)%4,(prod ms).2):=by
 have:=Z9y k ms 0 0 0
 rw[Nat.add_zero,Nat.mod_eq_of_lt hk] at this
 exact this
theorem Y1b:∀ (ms:List Mk) (a:Mk),a.1<4->(ms.foldl mul a).1<4
 | [],a,h=>h
 | m::ms,a,h=>Y1b ms (mul a m) (Nat.mod_lt _ (by decide))
def chosen (rows:List Mk)(x m:Nat):List Mk:=(places x m).map fun p=>rows.getD p (0,0,0)
theorem Z2r (rows:List Mk)(x m:Nat):chosen rows x (m+1)=chosen rows x m++(if bit x m=1 then [rows.getD m (0,0,0)] else []):=by
 unfold chosen
 rw[Z3e,List.map_append]
 show _++List.map _ (if bit x m=1 then [m] else [])=_
 split<;>rfl
theorem Z7o (rows:List Mk)(x:Nat):∀ m,(prod (chosen rows x m)).2.1=Xm (rows.map (·.2.1)) x m
 | 0=>rfl
 | m+1=>by
  have ih:=Z7o rows x m
  rw[Z2r]
  unfold prod at *
  rw[List.foldl_append]
  unfold Xm
  split
  ·show (mul _ _).2.1=_
   show (List.foldl mul (0,0,0) (chosen rows x m)).2.1^^^(rows.getD m (0,0,0)).2.1=_
   rw[ih,List.getD_eq_getElem?_getD,List.getD_eq_getElem?_getD,List.getElem?_map]
   cases rows[m]?<;>rfl
  ·exact ih
theorem Z7n (rows:List Mk)(x:Nat):∀ m,(prod (chosen rows x m)).2.2=Xm (rows.map (·.2.2)) x m
 | 0=>rfl
 | m+1=>by
  have ih:=Z7n rows x m
  rw[Z2r]
  unfold prod at *
  rw[List.foldl_append]
  unfold Xm
  split
  ·show (List.foldl mul (0,0,0) (chosen rows x m)).2.2^^^(rows.getD m (0,0,0)).2.2=_
   rw[ih,List.getD_eq_getElem?_getD,List.getD_eq_getElem?_getD,List.getElem?_map]
   cases rows[m]?<;>rfl
  ·exact ih
end M54
namespace K62T
open PySem PySem.Spec PyProof.Rows L2 Pc K51 M54
def Mks (H:Hp):List Addr->List Mk->Prop:=Paired fun p m=>H p=some (T3 m)
theorem Mks.same {H H':Hp}{ps:List Addr}{ms:List Mk}(h:Mks H ps ms)(s:Same H H'):Mks H' ps ms:=Paired.imp' (fun _ _ c=>s _ _ c) h
theorem Mks.length {H:Hp}{ps:List Addr}{ms:List Mk}(h:Mks H ps ms):ps.length=ms.length:=Paired.length h
theorem Mks.get {H:Hp}:∀ {ps:List Addr}{ms:List Mk}{i:Nat}{p:Addr},Mks H ps ms->ps[i]?=some p->∃ e,ms[i]?=some e/\H p=some (T3 e)
 | p'::ps,e::es,0,p,.cons a r,h=>by
  have:p'=p:=by simpa using h
  subst this
  exact⟨e,rfl,a⟩
 | p'::ps,e::es,i+1,p,.cons a r,h=>by
  obtain⟨f,b,c⟩:=Mks.get (ps:=ps) (ms:=es) (i:=i) (p:=p) r (by simpa using h)
  exact⟨f,by simpa using b,c⟩
theorem Mks.at {H:Hp}{ps:List Addr}{ms:List Mk}{i:Nat}(h:Mks H ps ms)(hi:i<ms.length):∃ p,ps[i]?=some p/\H p=some (T3 (ms.getD i (0,0,0))):=by
 have hl:=h.length
 have e1:ps[i]?=some (ps[i]'(by omega)):=by simp[show i<ps.length by omega]
 obtain⟨e,e2,e3⟩:=h.get e1
 refine⟨_,e1,?_⟩
 rw[List.getD_eq_getElem?_getD,e2]
 exact e3
abbrev rowM (m:Mk):List Int:=[(m.1:Int),(m.2.1:Int),(m.2.2:Int)]
theorem Mks.rows {H:Hp}:∀ {ps:List Addr}{ms:List Mk},Mks H ps ms->Rows5 H ps (ms.map rowM)
 | [],[],_=>.nil
 | _::_,_::_,.cons a r=>.cons a (Mks.rows r)
abbrev L3 (m:Mk):List V:=[.int m.1,.int m.2.1,.int m.2.2]
def Z4b (K:PySem.W.Frag):Sp:=fun vs H Q _=>∃ (p p':Addr) (m m':Mk),vs=[.ref p,.ref p']/\SqT K H p (L3 m)/\SqT K H p' (L3 m')/\∀ (r:Addr) (H':Hp),Same H H'->H' r=some (T3 (mul m m'))->Q (.ref r) H'
def Z6k (K:PySem.W.Frag):Sp:=fun vs H Q _=>∃ (l:Addr) (ps:List Addr) (ms:List Mk),vs=[.ref l]/\SqL K H l (ps.map V.ref)/\Mks H ps ms/\∀ (r:Addr) (H':Hp),Same H H'->SqT K H' r (L3 (prod ms))->Q (.ref r) H'
def Z7k (K:PySem.W.Frag):Sp:=fun vs H Q _=>∃ (l:Addr) (ps:List Addr) (ms:List Mk) (pt:Int) (fs:List Nat) (n:Nat),vs=[.ref l,.int pt,.int n]/\SqL K H l (ps.map V.ref)/\Mks H ps ms/\ms.length<=60 ∧
 (pt=1/\fs=ms.map (·.2.1)∨pt=2/\fs=ms.map (·.2.2))/\∀ H',Same H H'->Q (.int (Wm fs n fs.length:Nat)) H'
def Y5z (K:PySem.W.Frag):Sp:=fun vs H Q _=>∃ (l:Addr) (c n:Nat),vs=[.ref l,.int n]/\SqL K H l ((places c (bl c)).map fun p=>V.int (p:Nat))/\n<=6/\c<2^(n+n) ∧
 ∀ (r:Addr) (H':Hp),Same H H'->H' r=some (T3 (pc (c / 2^n&&&c%2^n)%4,c / 2^n,c%2^n))->Q (.ref r) H'
theorem Y3v (c k:Nat):∀ N,((((places c N).map fun p=>((p:Nat):Int)).filter fun z:Int=>decide ((k:Int)<=z)).map fun z:Int=>(1:Int)*2^(z-(k:Int)).toNat).sum=((c%2^N / 2^k:Nat):Int)
 | 0=>by simp[places,Nat.mod_one]
 | N+1=>by
  have ih:=Y3v c k N
  have p:=Nat.two_pow_pos k
  rw[Z3e,List.map_append,List.filter_append,List.map_append,List.sum_append,ih,Z6c]
  show _+((((if bit c N=1 then [N] else []).map fun p=>((p:Nat):Int)).filter fun z:Int=>decide ((k:Int)<=z)).map fun z:Int=>(1:Int)*2^(z-(k:Int)).toNat).sum=_
  have hl:c%2^N<2^N:=Nat.mod_lt _ (Nat.two_pow_pos N)
  rcases (by have:=Z1k c N;omega:bit c N=0∨bit c N=1) with z | z
  ·rw[z];simp
  ·rw[z,if_pos rfl,Nat.one_mul]
   by_cases hk:k<=N
   ·obtain⟨d,rfl⟩:∃ d,N=k+d:=⟨N-k,by omega⟩
    have e:(c%2^(k+d)+2^(k+d)) / 2^k=c%2^(k+d) / 2^k+2^d:=by rw[Nat.pow_add,Nat.add_mul_div_left _ _ p]
    rw[e]
    have hk2:(k:Int)<=(k:Int)+d:=by omega
    have e3:((k:Int)+d).toNat-k=d:=by omega
    simp[hk2,e3]
   ·have e:(c%2^N+2^N) / 2^k=0:=Nat.div_eq_of_lt (by
     have:=Nat.pow_le_pow_right (show 0<2 by decide) (show N+1<=k by omega)
     rw[Nat.pow_succ'] at this
     omega)
    have e':c%2^N / 2^k=0:=Nat.div_eq_of_lt (Nat.lt_trans hl (Nat.pow_lt_pow_right (by decide) (by omega)))
    rw[e,e']
    have nk:¬ ((k:Int)<=N):=by omega
    simp[nk]
theorem Y7j (c k:Nat):∀ N,((((places c N).map fun p=>((p:Nat):Int)).filter fun z=>decide (z<(k:Int))).map fun z=>(1:Int)*2^z.toNat).sum=((c%2^N%2^k:Nat):Int)
 | 0=>by simp[places,Nat.mod_one]
 | N+1=>by
  have ih:=Y7j c k N
  rw[Z3e,List.map_append,List.filter_append,List.map_append,List.sum_append,ih,Z6c]
  show _+((((if bit c N=1 then [N] else []).map fun p=>((p:Nat):Int)).filter fun z=>decide (z<(k:Int))).map fun z=>(1:Int)*2^z.toNat).sum=_
  have hl:c%2^N<2^N:=Nat.mod_lt _ (Nat.two_pow_pos N)
  rcases (by have:=Z1k c N;omega:bit c N=0∨bit c N=1) with z | z
  ·rw[z];simp
  ·rw[z,if_pos rfl,Nat.one_mul]
   by_cases hk:k<=N
   ·obtain⟨d,rfl⟩:∃ d,N=k+d:=⟨N-k,by omega⟩
    have e:(c%2^(k+d)+2^(k+d))%2^k=c%2^(k+d)%2^k:=by rw[Nat.pow_add,Nat.add_mul_mod_self_left]
    rw[e]
    have nk:¬ ((k:Int)+d<k):=by omega
    simp[nk]
   ·have hp:2*2^N<=2^k:=by
     have:=Nat.pow_le_pow_right (show 0<2 by decide) (show N+1<=k by omega)
     rw[Nat.pow_succ'] at this
     exact this
    rw[Nat.mod_eq_of_lt (show c%2^N+2^N<2^k by omega),Nat.mod_eq_of_lt (show c%2^N<2^k by omega)]
    simp[show N<k by omega]
theorem t3:3<=sizeLine:=by decide
theorem Z6v (x:Nat):Builtin.bitAnd (x:Int) 1=((x%2:Nat):Int):=by
 have:=Z5s x 1
 rw[Nat.and_one_is_mod] at this
 exact this
section
variable {P:Program}{w:World}{K:PySem.W.Frag}{mg:Str->Option Value}{base:Heap}{k:Nat}{h:Heap}
theorem sc_product:FnScope ["one","other","met"] ["one","other"] (Z0i (top 22)):=fS
theorem Y4r (F:FunAt K "product" (top 22) .none)(X:K.In h)(G:h.Ns mainGlobals mg)(c_ones:Cal P w K mg base k "ones" ["number"] spOnes):Cal P w K mg base (k+1) "product" ["one","other"] (Z4b K):=by
 have nd:=sc_product.nd
 refine F.cal X G sc_product (bnd2 fun _ _ _ _ _ _ _ _=>rfl) (fun vs H Q E h=>?_) (fun f cdv A outer s H vs Q E hr h=>?_)
 ·obtain⟨p,p',m,m',rfl,_⟩:=h;rfl
 obtain⟨p,p',m,m',rfl,S1,S2,kq⟩:=h
 refine⟨_,(@Z0e _ _ _ _ _ (@Z0r _ _ 2 _ _ _ _ nd rfl (Or.inl rfl) (Z0k c_ones hr rfl (Z0a (Z0h Z1t (Z0n Z0l (pv 0) Z0b (fun _ _=>rfl)) (Z0n Z0l (pv 1) Z0b (fun _ _=>rfl))) Z0d)) rfl (.inl rfl))
  (@Z0g _ _ _ (Z0j (@Z0z _ _ _ _ _ (Z0a (Z0h Z0u (Z0h Z1c (Z0h Z1c (Z0n Z0l (pv 0) Z0b (fun _ _=>rfl)) (Z0n Z0l (pv 1) Z0b (fun _ _=>rfl))) (Z0h Z2y Z0b (pv 2))) Z0b) (Z0a (Z0h Z3n (Z0n Z0l (pv 0) Z0b (fun _ _=>rfl)) (Z0n Z0l (pv 1) Z0b (fun _ _=>rfl))) (Z0a (Z0h Z3n (Z0n Z0l (pv 0) Z0b (fun _ _=>rfl)) (Z0n Z0l (pv 1) Z0b (fun _ _=>rfl))) Z0d))))))),?_⟩
 try dsimp only[cxK]
 refine⟨_,rfl,p,_,_,_,rfl,rfl,S1,rfl,_,rfl,p',_,_,_,rfl,rfl,S2,rfl,_,_,rfl,rfl,m.2.2&&&m'.2.1,Z3z _ _,?_⟩
 refine⟨_,rfl,p,_,_,_,rfl,rfl,S1,rfl,_,rfl,p',_,_,_,rfl,rfl,S2,rfl,_,_,rfl,rfl,_,rfl,_,_,rfl,rfl,.inl ⟨by decide,by decide⟩,_,_,rfl,rfl,_,_,rfl,rfl,Z2e,?_⟩
 refine⟨_,rfl,p,_,_,_,rfl,rfl,S1,rfl,_,rfl,p',_,_,_,rfl,rfl,S2,rfl,_,_,rfl,rfl,_,rfl,p,_,_,_,rfl,rfl,S1,rfl,_,rfl,p',_,_,_,rfl,rfl,S2,rfl,_,_,rfl,rfl,t3,fun r hr=>?_⟩
 refine kq r _ (Z0f hr _) ?_
 rw[Z0c]
 show some (HO.tup [.int (((m.1:Int)+m'.1+2*((pc (m.2.2&&&m'.2.1):Nat):Int))%4),.int (Builtin.bitXor (m.2.1:Int) m'.2.1),.int (Builtin.bitXor (m.2.2:Int) m'.2.2)])=_
 rw[Z4p,Z4p]
 rfl
theorem sc_prodof:FnScope ["marks","made","mark"] ["marks"] (Z0i (top 48)):=fS
theorem Y6t (F:FunAt K "product_of" (top 48) .none)(X:K.In h)(G:h.Ns mainGlobals mg){aP:Addr}(gP:mg "PRODUCT_OF_NONE"=some (.ref aP))(sP:∀ H:Hp,SqT K H aP (L3 (0,0,0)))
  (c_product:Cal P w K mg base k "product" ["one","other"] (Z4b K)):Cal P w K mg base (k+1) "product_of" ["marks"] (Z6k K):=by
 have nd:=sc_prodof.nd
 refine F.cal X G sc_prodof (bnd1 fun _ _ _ _ _ _ _=>rfl) (fun vs H Q E h=>?_) (fun f cdv A outer s H vs Q E hr h=>?_)
 ·obtain⟨l,ps,ms,rfl,_⟩:=h;rfl
 obtain⟨l,ps,ms,rfl,hS,hm,kq⟩:=h
 have hlen:=hm.length
 refine⟨_,(@Z0e _ _ _ _ _ (@Z0r _ _ 1 _ _ _ _ nd rfl (Or.inl rfl) (Z3g (v:=.ref aP) rfl gP rfl) rfl (.inl rfl))
  (@Z0e _ _ _ _ _ (Z1p PassesOwn.never rfl (Z1d (pv 0)) (Z0m (i:=2) nd rfl (Or.inl rfl))
   (@Z0g _ _ _ (@Z0r _ _ 1 _ _ _ _ nd rfl (Or.inl rfl) (Z0k c_product hr rfl (Z0a (pv 1) (Z0a (pv 2) Z0d))) rfl (.inl rfl))))
  (@Z0g _ _ _ (Z0j (pv 1))))),?_⟩
 try dsimp only[cxK]
 refine⟨_,rfl,l,rfl,⟨_,hS⟩,Z2o (K:=K) (a:=l) (xs:=ps.map V.ref) (fun i σ H'=>Same H H'/\∃ (p:Addr) (v:Option V),SqT K H' p (L3 ((ms.take i).foldl mul (0,0,0)))/\σ=[some (.ref l),some (.ref p),v]) ⟨Same.refl _,aP,none,sP H,rfl⟩ (fun i σ H' _ e=>e.1.seq hS) ?_ ?_⟩
 ·rintro i x σ H1 hx ⟨s1,p,v,sp,rfl⟩
  rw[List.getElem?_map] at hx
  obtain⟨p',hp',rfl⟩:=Option.map_eq_some_iff.mp hx
  obtain⟨m,hmi,hpm⟩:=hm.get hp'
  refine⟨_,rfl,_,rfl,p,p',_,m,rfl,sp,SqT.of (s1 _ _ hpm),fun r H2 s2 hr=>⟨s1.trans s2,r,_,?_,rfl⟩⟩
  rw[List.take_add_one,hmi,Option.toList_some,List.foldl_append]
  exact SqT.of hr
 ·rintro σ H1 ⟨s1,p,v,sp,rfl⟩
  rw[List.length_map,hlen,List.take_length] at sp
  exact⟨_,rfl,kq p H1 s1 sp⟩
theorem sc_rowswith:FnScope ["rows","part","cell"] ["rows","part","cell"] (Z0i (top 47)):=fS
theorem Y1i (F:FunAt K "rows_with" (top 47) .none)(X:K.In h)(G:h.Ns mainGlobals mg)(B:Bs mg):Cal P w K mg base (k+1) "rows_with" ["rows","part","cell"] (Z7k K):=by
 have nd:=sc_rowswith.nd
 refine F.cal X G sc_rowswith (bnd3 fun _ _ _ _ _ _ _ _ _=>rfl) (fun vs H Q E h=>?_) (fun f cdv A outer s H vs Q E hr h=>?_)
 ·obtain⟨l,ps,ms,pt,fs,n,rfl,_⟩:=h;rfl
 obtain⟨l,ps,ms,pt,fs,n,rfl,hS,hm,h60,hpt,kq⟩:=h
 have hlen:=hm.length
 have fl:fs.length=ms.length:=by rcases hpt with ⟨_,rfl⟩ | ⟨_,rfl⟩<;>exact List.length_map _
 refine⟨_,(@Z0g _ _ _ (Z0j (Z0q (Z7d rfl) rfl B.sum boot_sum (Z0a (Z3k rfl (LcOk.of (Nc:=["place","row","part","cell"]) (mp:=[none,none,some 1,some 2]) (by kernel_rfl)) (Z5m rfl B.enumerate (Z0a (pv 0) Z0d)) (fun _ _ _ _=>(Z6b rfl (show (["place","row","part","cell"]:List Str).Nodup by decide +kernel) rfl rfl rfl rfl)) (fun _ _ _ _=>(Z0h Z1r (Z0h Z1t (Z0h Z4h (Z0n Z4u (pv 1) (pv 2) (fun _ _=>rfl)) (pv 3)) Z0b) (pv 0)))) Z0d)))),?_⟩
 try dsimp only[cxK]
 refine⟨_,rfl,l,_,rfl,hS,fun acc hacc=>?_⟩
 refine X5c (l:=l) (xs:=ps.map V.ref) (fr:=[some (.int pt),some (.int n)]) (fun i _=>.int (((bit (fs.getD i 0) n:Nat):Int)*2^i)) (by rw[List.length_map];exact s64 (by omega)) hacc hS (fun h q=>⟨_,_,rfl,SqT.of h,rfl,_,_,rfl,_,_,rfl,rfl,q⟩) ?_ ?_
 ·intro i x H2 N hx s2 kN
  rw[List.getElem?_map] at hx
  obtain⟨p',hp',rfl⟩:=Option.map_eq_some_iff.mp hx
  obtain⟨m,hmi,hpm⟩:=hm.get hp'
  have ilt:i<ms.length:=(List.getElem?_eq_some_iff.mp hmi).1
  have S:SqT K H2 p' (L3 m):=SqT.of (s2 _ _ hpm)
  have at':atI (L3 m) pt=some (.int (fs.getD i 0:Nat)):=by
   rcases hpt with ⟨rfl,rfl⟩ | ⟨rfl,rfl⟩<;>rw[List.getD_eq_getElem?_getD,List.getElem?_map,hmi]<;>rfl
  have b2:=Z1k (fs.getD i 0) n
  have e1:((fs.getD i 0:Nat):Int) / 2^((n:Int)).toNat=((fs.getD i 0 / 2^n:Nat):Int):=by rw[Int.toNat_natCast];simp
  refine⟨_,rfl,_,rfl,p',_,_,_,rfl,rfl,S,at',_,rfl,_,_,rfl,rfl,by omega,_,_,rfl,rfl,_,rfl,?_⟩
  show rI CShl (fun i j=>V.int (i*2^j.toNat)) (V.int (Builtin.bitAnd (((fs.getD i 0:Nat):Int) / 2^((n:Int)).toNat) 1)) (V.int (i:Int)) H2 N
  rw[e1,Z6v]
  refine⟨_,_,rfl,rfl,⟨1,?_,by omega,by omega⟩,?_⟩
  ·show ((bit (fs.getD i 0) n:Nat):Int).natAbs<2^1
   omega
  ·show N (.int (((bit (fs.getD i 0) n:Nat):Int)*2^((i:Int)).toNat)) H2
   rw[Int.toNat_natCast]
   exact kN
 ·intro H2 s2 a2
  have e:((ps.map V.ref).mapIdx fun i _=>V.int (((bit (fs.getD i 0) n:Nat):Int)*2^i))=(fs.mapIdx fun i v=>((bit v n:Nat):Int)*2^i).map V.int:=by
   apply List.ext_getElem
   ·simp[hlen,fl]
   ·intro i h1 h2
    simp only[List.length_map,List.length_mapIdx] at h2
    simp[h2]
  rw[e] at a2
  refine⟨acc,_,rfl,SqL.of a2,?_⟩
  have:=X2w fs n fs.length (Nat.le_refl _)
  rw[List.take_length] at this
  rw[this]
  exact kq H2 s2
theorem sc_apart:FnScope ["numbers","cells","flips","signs"] ["numbers","cells"] (Z0i (top 49)):=fS
theorem X0s (F:FunAt K "apart_by" (top 49) .none)(X:K.In h)(G:h.Ns mainGlobals mg)(B:Bs mg)(c_ones:Cal P w K mg base k "ones" ["number"] spOnes):Cal P w K mg base (k+1) "apart_by" ["numbers","cells"] (Y5z K):=by
 have nd:=sc_apart.nd
 refine F.cal X G sc_apart (bnd2 fun _ _ _ _ _ _ _ _=>rfl) (fun vs H Q E h=>?_) (fun f cdv A outer s H vs Q E hr h=>?_)
 ·obtain⟨l,c,n,rfl,_⟩:=h;rfl
 obtain⟨l,c,n,rfl,hS,hn,hc,kq⟩:=h
 have em:((places c (bl c)).map fun p=>V.int (p:Nat))=((places c (bl c)).map fun p=>((p:Nat):Int)).map V.int:=by rw[List.map_map];rfl
 rw[em] at hS
 have hb:bl c<=n+n:=bl_le.mpr hc
 have hmem:∀ z∈(places c (bl c)).map fun p=>((p:Nat):Int),∃ p:Nat,z=p/\p<12:=fun z hz=>by
  obtain⟨p,hp,rfl⟩:=List.mem_map.mp hz
  exact⟨p,rfl,by have:=Z4e hp;omega⟩
 have hlen:((places c (bl c)).map fun p=>((p:Nat):Int)).length<=sizeLine:=by
  rw[List.length_map]
  exact s64 (Nat.le_trans (List.length_filter_le _ _) (by rw[List.length_range];omega))
 have hi:=Y3v c n (bl c)
 have lo:=Y7j c n (bl c)
 rw[Nat.mod_eq_of_lt (X1p c)] at hi lo
 generalize ((places c (bl c)).map fun p=>((p:Nat):Int))=ns at *
 refine⟨_,(@Z0e _ _ _ _ _ (@Z0r _ _ 2 _ _ _ _ nd rfl (Or.inl rfl) (Z0q (Z7d rfl) rfl B.sum boot_sum (Z0a (Y3f rfl (LcOk.of (Nc:=["number","cells"]) (mp:=[none,some 1]) (by kernel_rfl)) (Z1d (pv 0)) (fun _ _ _ _=>(Z0m (i:=0) (show (["number","cells"]:List Str).Nodup by decide +kernel) rfl (Or.inl rfl))) (fun _ _ _ _=>(Z0o Y4o (pv 0) (pv 1) (nomark _))) (fun _ _ _ _=>(Z0h Z1r Z0b (Z0h Z1z (pv 0) (pv 1))))) Z0d)) rfl (.inl rfl))
  (@Z0e _ _ _ _ _ (@Z0r _ _ 3 _ _ _ _ nd rfl (Or.inl rfl) (Z0q (Z7d rfl) rfl B.sum boot_sum (Z0a (Y3f rfl (LcOk.of (Nc:=["number","cells"]) (mp:=[none,some 1]) (by kernel_rfl)) (Z1d (pv 0)) (fun _ _ _ _=>(Z0m (i:=0) (show (["number","cells"]:List Str).Nodup by decide +kernel) rfl (Or.inl rfl))) (fun _ _ _ _=>(Z0o Z6u (pv 0) (pv 1) (nomark _))) (fun _ _ _ _=>(Z0h Z1r Z0b (pv 0)))) Z0d)) rfl (.inl rfl))
  (@Z0g _ _ _ (Z0j (@Z0z _ _ _ _ _ (Z0a (Z0h Z0u (Z0k c_ones hr rfl (Z0a (Z0h Z1t (pv 2) (pv 3)) Z0d)) Z0b) (Z0a (pv 2) (Z0a (pv 3) Z0d)))))))),?_⟩
 try dsimp only[cxK]
 refine⟨_,rfl,l,rfl,⟨_,hS⟩,fun acc hacc=>?_⟩
 refine Z8o (l:=l) (ns:=ns) (fr:=[some (.int n)]) (fun z=>decide ((n:Int)<=z)) (fun z=>1*2^(z-n).toNat) hlen hacc hS (fun z H2 N _ _ kN=>⟨_,rfl,_,rfl,_,_,rfl,rfl,_,rfl,kN⟩) (fun z H2 N hz hp _ kN=>?_) ?_
 ·obtain⟨p,rfl,hp12⟩:=hmem z hz
  have hge:=of_decide_eq_true hp
  exact⟨_,rfl,_,rfl,_,_,rfl,rfl,_,_,rfl,rfl,⟨1,sz1,by omega,by omega⟩,kN⟩
 intro H2 s2 a2
 refine⟨acc,_,rfl,SqL.of a2,?_⟩
 rw[hi]
 refine⟨_,rfl,l,rfl,⟨_,s2.seq hS⟩,fun acc' hacc'=>?_⟩
 refine Z8o (l:=l) (ns:=ns) (fr:=[some (.int n)]) (fun z=>decide (z<(n:Int))) (fun z=>1*2^z.toNat) hlen hacc' (s2.seq hS) (fun z H2 N _ _ kN=>⟨_,rfl,_,rfl,_,_,rfl,rfl,_,rfl,kN⟩) (fun z H2 N hz hp _ kN=>?_) ?_
 ·obtain⟨p,rfl,hp12⟩:=hmem z hz
  exact⟨_,rfl,_,_,rfl,rfl,⟨1,sz1,by omega,by omega⟩,kN⟩
 intro H3 s3 a3
 refine⟨acc',_,rfl,SqL.of a3,?_⟩
 rw[lo]
 refine⟨_,rfl,_,rfl,_,_,rfl,rfl,c / 2^n&&&c%2^n,Z3z _ _,_,_,rfl,rfl,Z2e,_,rfl,_,rfl,t3,fun r hr=>?_⟩
 refine kq r _ ((s2.trans s3).trans (Z0f hr _)) ?_
 rw[Z0c]
 rfl
def comm (a b:Mk):Nat:=(pc (a.2.1&&&b.2.2)+pc (a.2.2&&&b.2.1))%2
structure Okm (N:Nat) (m:Mk):Prop where
 q:m.1<4
 f:m.2.1<2^N
 s:m.2.2<2^N
def MadeT (ms:List Mk)(mark:Mk)(N:Nat)(H0 H:Hp)(r:Addr):Prop :=
 (∃ (kk x:Nat) (l:Addr),H0 l=none/\H r=some (.tup [.str "made",.int kk,.ref l])/\H l=some (.lst ((places x ms.length).map fun p=>V.int (p:Nat)))/\kk<4/\(chosen ms x ms.length).foldl mul (kk,0,0)=mark) ∨
 ∃ (p:Addr) (o:Mk),H r=some (.tup [.str "apart",.ref p])/\H p=some (T3 o)/\Okm N o/\(o.1+pc (o.2.1&&&o.2.2))%2=0/\comm o mark=1/\∀ m∈ms,comm o m=0
def Z8f (K:PySem.W.Frag):Sp:=fun vs H Q _=>∃ (l pm:Addr) (ps:List Addr) (ms:List Mk) (mark:Mk) (N:Nat),vs=[.ref l,.ref pm,.int N]/\SqL K H l (ps.map V.ref)/\Mks H ps ms/\H pm=some (T3 mark)/\N<=6/\ms.length<=12/\(∀ m∈ms,Okm N m)/\Okm N mark ∧
 ∀ (r:Addr) (H':Hp),Same H H'->MadeT ms mark N H H' r->Q (.ref r) H'
theorem Mks.pick {H:Hp}{ps:List Addr}{ms:List Mk}(h:Mks H ps ms):∀ (pl:List Nat),(∀ p∈pl,p<ms.length)->Mks H (pl.map fun p=>ps.getD p 0) (pl.map fun p=>ms.getD p (0,0,0))
 | [],_=>.nil
 | p::pl,hp=>by
  obtain⟨a,e1,e2⟩:=h.at (hp p List.mem_cons_self)
  refine .cons ?_ (Mks.pick h pl fun q hq=>hp q (List.mem_cons_of_mem _ hq))
  show H (ps.getD p 0)=_
  rw[List.getD_eq_getElem?_getD,e1]
  exact e2
theorem Z6t {α β:Type}{F:α->β->Prop}{l2:List α}{r2:List β}:∀ {l1:List α}{r1:List β},Paired F l1 r1->Paired F l2 r2->Paired F (l1++l2) (r1++r2)
 | [],[],_,h=>h
 | _::_,_::_,.cons a t,h=>.cons a (Z6t t h)
theorem X5n {ms:List Mk}{N:Nat}(h:∀ m∈ms,Okm N m)(j:Nat):(ms.map (·.2.1)).getD j 0<2^N/\(ms.map (·.2.2)).getD j 0<2^N:=by
 rw[List.getD_eq_getElem?_getD,List.getD_eq_getElem?_getD,List.getElem?_map,List.getElem?_map]
 cases e:ms[j]? with
 | none=>exact⟨Nat.two_pow_pos N,Nat.two_pow_pos N⟩
 | some m=>exact⟨(h m (List.mem_of_getElem? e)).f,(h m (List.mem_of_getElem? e)).s⟩
abbrev both (ms:List Mk)(mark:Mk)(N:Nat):List Eqn:=eqs (ms.map (·.2.1)) mark.2.1 N++eqs (ms.map (·.2.2)) mark.2.2 N
theorem Y4f (ms:List Mk)(mark:Mk)(N:Nat):(both ms mark N).length=N+N:=by rw[List.length_append,Z5r,Z5r]
theorem X5q {fs:List Nat}{v N:Nat}{e:Eqn}(h:e∈eqs fs v N):∃ n,n<N/\e=(Wm fs n fs.length,bit v n):=by
 obtain⟨n,hn,rfl⟩:=List.mem_map.mp h
 exact⟨n,List.mem_range.mp hn,rfl⟩
theorem Y8w {ms:List Mk}{mark:Mk}{N:Nat}(h:ms.length<=12):Fine (both ms mark N):=by
 have key:∀ e∈both ms mark N,e.2<2/\e.1<2^12:=fun e he=>by
  rcases List.mem_append.mp he with q | q<;>obtain⟨n,_,rfl⟩:=X5q q
  ·exact⟨Z1k _ _,Nat.lt_of_lt_of_le (Y9b _ _ _) (Nat.pow_le_pow_right (by decide) (by rw[List.length_map];exact h))⟩
  ·exact⟨Z1k _ _,Nat.lt_of_lt_of_le (Y9b _ _ _) (Nat.pow_le_pow_right (by decide) (by rw[List.length_map];exact h))⟩
 exact⟨fun e he=>(key e he).1,fun e he=>Nat.lt_trans (key e he).2 (Nat.pow_lt_pow_right (by decide) (by decide))⟩
theorem X1o {ms:List Mk}{mark:Mk}{N x:Nat}(hm:∀ m∈ms,Okm N m)(hk:Okm N mark)(h:∀ e∈both ms mark N,sat x e):(prod (chosen ms x ms.length)).2=mark.2:=by
 have g:=X5n hm
 have hf:(prod (chosen ms x ms.length)).2.1=mark.2.1:=by
  rw[Z7o]
  refine Z2q N _ _ (X1t (fun j=>(g j).1) _) hk.f fun n hn=>?_
  have:=h (Wm (ms.map (·.2.1)) n (ms.map (·.2.1)).length,bit mark.2.1 n) (List.mem_append_left _ (List.mem_map.mpr ⟨n,List.mem_range.mpr hn,rfl⟩))
  rw[List.length_map] at this
  rw[X3i]
  exact this
 have hs:(prod (chosen ms x ms.length)).2.2=mark.2.2:=by
  rw[Z7n]
  refine Z2q N _ _ (X1t (fun j=>(g j).2) _) hk.s fun n hn=>?_
  have:=h (Wm (ms.map (·.2.2)) n (ms.map (·.2.2)).length,bit mark.2.2 n) (List.mem_append_right _ (List.mem_map.mpr ⟨n,List.mem_range.mpr hn,rfl⟩))
  rw[List.length_map] at this
  rw[X3i]
  exact this
 exact Prod.ext hf hs
theorem Eqs.upd {H:Hp}{l:Addr}{xs ys:List V}{ps:List Addr}{es:List Eqn}(h:Eqs H ps es)(hl:H l=some (.lst xs)):Eqs (upd H l (.lst ys)) ps es :=
 Paired.imp' (fun _ _ c=>by rw[Z0x (Z5o c hl (by intro z;cases z))];exact c) h
theorem xor01 {a b:Nat}(ha:a<2)(hb:b<2):a^^^b=(a+b)%2:=by
 have:=Z3r a b
 have z1:a / 2=0:=by omega
 have z2:b / 2=0:=by omega
 rw[z1,z2] at this
 have q:(0^^^0:Nat)=0:=rfl
 omega
theorem Y5c {ms:List Mk}{mark:Mk}{N c:Nat}(hc:c<2^(N+N))(h:comb (both ms mark N) c=(0,1)) :
  comm (pc (c / 2^N&&&c%2^N)%4,c / 2^N,c%2^N) mark=1/\∀ m∈ms,comm (pc (c / 2^N&&&c%2^N)%4,c / 2^N,c%2^N) m=0:=by
 rw[Z3t,Z5r] at h
 have hd:c / 2^N%2^N=c / 2^N:=Nat.mod_eq_of_lt (by rw[Nat.pow_add] at hc;exact Nat.div_lt_of_lt_mul hc)
 constructor
 ·have h2:(comb (eqs (ms.map (·.2.1)) mark.2.1 N) c).2^^^(comb (eqs (ms.map (·.2.2)) mark.2.2 N) (c / 2^N)).2=1:=congrArg Prod.snd h
  rw[Z8u,Z8u,hd,xor01 (Nat.mod_lt _ (by decide)) (Nat.mod_lt _ (by decide))] at h2
  unfold comm
  show (pc (c / 2^N&&&mark.2.2)+pc (c%2^N&&&mark.2.1))%2=1
  omega
 ·intro m hm
  obtain⟨j,hj,rfl⟩:=List.mem_iff_getElem.mp hm
  have h1:(comb (eqs (ms.map (·.2.1)) mark.2.1 N) c).1^^^(comb (eqs (ms.map (·.2.2)) mark.2.2 N) (c / 2^N)).1=0:=congrArg Prod.fst h
  have h3:bit ((comb (eqs (ms.map (·.2.1)) mark.2.1 N) c).1^^^(comb (eqs (ms.map (·.2.2)) mark.2.2 N) (c / 2^N)).1) j=bit 0 j:=by rw[h1]
  rw[M54.Z2g,Z8v _ _ _ _ (by rw[List.length_map];exact hj),Z8v _ _ _ _ (by rw[List.length_map];exact hj),hd,Z2u] at h3
  have e1:(ms.map (·.2.1)).getD j 0=ms[j].2.1:=by rw[List.getD_eq_getElem?_getD,List.getElem?_map,List.getElem?_eq_getElem hj];rfl
  have e2:(ms.map (·.2.2)).getD j 0=ms[j].2.2:=by rw[List.getD_eq_getElem?_getD,List.getElem?_map,List.getElem?_eq_getElem hj];rfl
  rw[e1,e2] at h3
  unfold comm
  show (pc (c / 2^N&&&ms[j].2.2)+pc (c%2^N&&&ms[j].2.1))%2=0
  omega
theorem sc_madeof:FnScope ["rows","mark","cells","flips","signs","told","numbers","made"] ["rows","mark","cells"] (Z0i (top 46)):=fS
theorem Y6x (F:FunAt K "made_of" (top 46) .none)(X:K.In h)(G:h.Ns mainGlobals mg)(B:Bs mg)(c_rows_with:Cal P w K mg base k "rows_with" ["rows","part","cell"] (Z7k K))(c_solved:Cal P w K mg base k "solved" ["equations"] (Y2o K))
  (c_apart_by:Cal P w K mg base k "apart_by" ["numbers","cells"] (Y5z K)) (c_product_of:Cal P w K mg base k "product_of" ["marks"] (Z6k K)):Cal P w K mg base (k+1) "made_of" ["rows","mark","cells"] (Z8f K):=by
 have nd:=sc_madeof.nd
 refine F.cal X G sc_madeof (bnd3 fun _ _ _ _ _ _ _ _ _=>rfl) (fun vs H Q E h=>?_) (fun f cdv A outer s H vs Q E hr h=>?_)
 ·obtain⟨l,pm,ps,ms,mark,N,rfl,_⟩:=h;rfl
 obtain⟨l,pm,ps,ms,mark,N,rfl,hS,hm,hpm,hN,h12,oks,okk,kq⟩:=h
 have hlen:=hm.length
 refine⟨_,(@Z0e _ _ _ _ _ (Z2z (i:=3) rfl nd rfl rfl (LcOk.of (Nc:=["cell","rows","mark"]) (mp:=[none,some 0,some 1]) (by kernel_rfl)) (Z0w rfl B.range (Z0a (pv 2) Z0d)) (fun _ _ _ _=>(Z0m (i:=0) (show (["cell","rows","mark"]:List Str).Nodup by decide +kernel) rfl (Or.inl rfl))) (fun _ _ _ _=>(@Z0z _ _ _ _ _ (Z0a (Z0k c_rows_with hr rfl (Z0a (pv 1) (Z0a Z0b (Z0a (pv 0) Z0d)))) (Z0a (Z0h Z1t (Z0h Z4h (Z0n Z4u (pv 2) Z0b (fun _ _=>rfl)) (pv 0)) Z0b) Z0d)))) rfl)
  (@Z0e _ _ _ _ _ (Z2z (i:=4) rfl nd rfl rfl (LcOk.of (Nc:=["cell","rows","mark"]) (mp:=[none,some 0,some 1]) (by kernel_rfl)) (Z0w rfl B.range (Z0a (pv 2) Z0d)) (fun _ _ _ _=>(Z0m (i:=0) (show (["cell","rows","mark"]:List Str).Nodup by decide +kernel) rfl (Or.inl rfl))) (fun _ _ _ _=>(@Z0z _ _ _ _ _ (Z0a (Z0k c_rows_with hr rfl (Z0a (pv 1) (Z0a Z0b (Z0a (pv 0) Z0d)))) (Z0a (Z0h Z1t (Z0h Z4h (Z0n Z4u (pv 2) Z0b (fun _ _=>rfl)) (pv 0)) Z0b) Z0d)))) rfl)
  (@Z0e _ _ _ _ _ (@Z0r _ _ 5 _ _ _ _ nd rfl (Or.inr rfl) (Z0k c_solved hr rfl (Z0a (Z0h X2h (pv 3) (pv 4)) Z0d)) rfl (.inl rfl))
  (@Z0e _ _ _ _ _ (Z0y (Z0o X2g (Z0n Z0l (pv 5) Z0b (fun _ _=>rfl)) Z9r (nomark _))
   (@Z0g _ _ _ (Z0j (@Z0z _ _ _ _ _ (Z0a Z2b (Z0a (Z0k c_apart_by hr rfl (Z0a (Z0n Z0l (pv 5) Z0b (fun _ _=>rfl)) (Z0a (pv 2) Z0d))) Z0d)))))
   Z0p)
  (@Z0e _ _ _ _ _ (Z4z (i:=6) rfl nd rfl rfl (LcOk.of (Nc:=["place","told"]) (mp:=[none,some 5]) (by kernel_rfl)) (Z0w rfl B.range (Z0a (Z0q Z0v rfl B.len PySem.boot_len (Z0a (pv 0) Z0d)) Z0d)) (fun _ _ _ _=>(Z0m (i:=0) (show (["place","told"]:List Str).Nodup by decide +kernel) rfl (Or.inl rfl))) (fun _ _ _ _=>(Z8k (Z0h Z1t (Z0h Z4h (Z0n Z4u (pv 1) Z0b (fun _ _=>rfl)) (pv 0)) Z0b) (by intro _;rfl))) (fun _ _ _ _=>(pv 0)) rfl)
  (@Z0e _ _ _ _ _ (@Z0r _ _ 7 _ _ _ _ nd rfl (Or.inl rfl) (Z0k c_product_of hr rfl (Z0a (Z3k rfl (LcOk.of (Nc:=["place","rows"]) (mp:=[none,some 0]) (by kernel_rfl)) (Z1d (pv 6)) (fun _ _ _ _=>(Z0m (i:=0) (show (["place","rows"]:List Str).Nodup by decide +kernel) rfl (Or.inl rfl))) (fun _ _ _ _=>(Z0n Z8p (pv 1) (pv 0) (fun _ _=>rfl)))) Z0d)) rfl (.inl rfl))
  (@Z0g _ _ _ (Z0j (@Z0z _ _ _ _ _ (Z0a Z2b (Z0a (Z0h Z0u (Z0h Z1z (Z0n Z0l (pv 1) Z0b (fun _ _=>rfl)) (Z0n Z0l (pv 7) Z0b (fun _ _=>rfl))) Z0b) (Z0a (pv 6) Z0d)))))))))))),?_⟩
 try dsimp only[cxK]
 refine⟨_,rfl,_,rfl,by omega,by omega,fun a1 ha1=>?_⟩
 rw[Int.toNat_natCast]
 refine Z3s (n:=N) (fr:=[some (.ref l),some (.ref pm)]) (fun i ys H'=>Same H H'/\H' a1=some (.lst ys)/\∃ qs:List Addr,ys=qs.map V.ref/\Eqs H' qs (eqs (ms.map (·.2.1)) mark.2.1 i)) (s64 (by omega)) ⟨Z0f ha1 _,Z0c,[],rfl,.nil⟩ ?_ ?_
 ·rintro i ys H2 NN hi hl ⟨s2,c2,qs,rfl,hq⟩ kN
  have e0:(0:Int)+(i:Int)=(i:Int):=Int.zero_add _
  refine⟨_,rfl,_,rfl,l,ps,ms,1,_,i,(by rw[e0];rfl),s2.seq hS,hm.same s2,by omega,.inl ⟨rfl,rfl⟩,fun H3 s3=>?_⟩
  have S3:SqT K H3 pm (L3 mark):=SqT.of (s3 _ _ (s2 _ _ hpm))
  have e1:(mark.2.1:Int) / 2^(0+(i:Int)).toNat=((mark.2.1 / 2^i:Nat):Int):=by rw[e0,Int.toNat_natCast];simp
  refine⟨_,rfl,pm,_,_,_,rfl,rfl,S3,rfl,_,rfl,_,_,rfl,rfl,by omega,_,_,rfl,rfl,t2,fun r hr=>?_⟩
  have sr:=Z0f hr (.tup [.int (Wm (ms.map (·.2.1)) i (ms.map (·.2.1)).length:Nat),.int (Builtin.bitAnd ((mark.2.1:Int) / 2^(0+(i:Int)).toNat) 1)])
  have hn:a1≠r:=Z1g (s3 _ _ c2) hr
  refine kN _ _ (sr _ _ (s3 _ _ c2)) ⟨Z0s ((s2.trans s3).trans sr) ha1,Z0c,qs++[r],by rw[List.map_append];rfl,?_⟩
  rw[Z6d]
  refine Paired.snoc (((hq.same s3).same sr).upd (sr _ _ (s3 _ _ c2))) ?_
  rw[Z0x (Ne.symm hn),Z0c]
  show some (HO.tup [.int _,.int (Builtin.bitAnd ((mark.2.1:Int) / 2^(0+(i:Int)).toNat) 1)])=_
  rw[e1,Z6v]
  rfl
 rintro ys H1 hl1 ⟨S1,c1,qs1,rfl,hq1⟩
 refine⟨_,rfl,_,rfl,by omega,by omega,fun a2 ha2=>?_⟩
 rw[Int.toNat_natCast]
 refine Z3s (n:=N) (fr:=[some (.ref l),some (.ref pm)]) (fun i ys H'=>Same H1 H'/\H' a2=some (.lst ys)/\∃ qs:List Addr,ys=qs.map V.ref/\Eqs H' qs (eqs (ms.map (·.2.2)) mark.2.2 i)) (s64 (by omega)) ⟨Z0f ha2 _,Z0c,[],rfl,.nil⟩ ?_ ?_
 ·rintro i ys H2 NN hi hl ⟨s2,c2,qs,rfl,hq⟩ kN
  have e0:(0:Int)+(i:Int)=(i:Int):=Int.zero_add _
  refine⟨_,rfl,_,rfl,l,ps,ms,2,_,i,(by rw[e0];rfl),s2.seq (S1.seq hS),(hm.same S1).same s2,by omega,.inr ⟨rfl,rfl⟩,fun H3 s3=>?_⟩
  have S3:SqT K H3 pm (L3 mark):=SqT.of (s3 _ _ (s2 _ _ (S1 _ _ hpm)))
  have e1:(mark.2.2:Int) / 2^(0+(i:Int)).toNat=((mark.2.2 / 2^i:Nat):Int):=by rw[e0,Int.toNat_natCast];simp
  refine⟨_,rfl,pm,_,_,_,rfl,rfl,S3,rfl,_,rfl,_,_,rfl,rfl,by omega,_,_,rfl,rfl,t2,fun r hr=>?_⟩
  have sr:=Z0f hr (.tup [.int (Wm (ms.map (·.2.2)) i (ms.map (·.2.2)).length:Nat),.int (Builtin.bitAnd ((mark.2.2:Int) / 2^(0+(i:Int)).toNat) 1)])
  have hn:a2≠r:=Z1g (s3 _ _ c2) hr
  refine kN _ _ (sr _ _ (s3 _ _ c2)) ⟨Z0s ((s2.trans s3).trans sr) ha2,Z0c,qs++[r],by rw[List.map_append];rfl,?_⟩
  rw[Z6d]
  refine Paired.snoc (((hq.same s3).same sr).upd (sr _ _ (s3 _ _ c2))) ?_
  rw[Z0x (Ne.symm hn),Z0c]
  show some (HO.tup [.int _,.int (Builtin.bitAnd ((mark.2.2:Int) / 2^(0+(i:Int)).toNat) 1)])=_
  rw[e1,Z6v]
  rfl
 rintro ys H2 hl2 ⟨S2,c2,qs2,rfl,hq2⟩
 have S12:=S1.trans S2
 have lq1:=hq1.length
 have lq2:=hq2.length
 rw[Z5r] at lq1 lq2
 refine⟨_,rfl,_,rfl,a1,a2,_,_,rfl,rfl,S2 _ _ c1,c2,(by rw[List.length_map,List.length_map];exact s64 (by omega)),fun cl hcl=>?_⟩
 have S3:=Z0f hcl (.lst (qs1.map V.ref++qs2.map V.ref))
 refine⟨cl,qs1++qs2,both ms mark N,rfl,?_,?_,Y8w h12,by rw[Y4f];omega,fun rt H4 S4 told=>?_⟩
 ·rw[List.map_append];exact SqL.of Z0c
 ·exact Z6t ((hq1.same S2).same S3) (hq2.same S3)
 have SS:=S12.trans (S3.trans S4)
 rcases told with ⟨x,hr,hs⟩ | ⟨c,q,hr,hq,clt,hc⟩
 ·have ST:SqT K H4 rt [.int x,.non]:=SqT.of hr
  refine⟨_,rfl,rt,_,_,_,rfl,rfl,ST,rfl,rfl,_,rfl,blI (fun z=>absurd (of_decide_eq_true z) (by intro z;cases z)) (fun _=>?_)⟩
  have lm:(ps.map V.ref).length=ms.length:=by rw[List.length_map,hlen]
  refine⟨_,rfl,l,_,rfl,.inl (SS.seq hS),_,rfl,by omega,by omega,fun a5 ha5=>?_⟩
  rw[Int.toNat_natCast,lm]
  refine Z5h (n:=ms.length) (fr:=[some (.ref rt)]) (fun i ys H'=>Same H4 H'/\H' a5=some (.lst ys)/\ys=(places x i).map fun p=>V.int (p:Nat)) (s64 (by omega)) ⟨Z0f ha5 _,Z0c,rfl⟩ ?_ (fun hm z=>?_) ?_
  ·rintro i ys H5 NN hi hl ⟨s5,c5,rfl⟩ kN
   have e0:(0:Int)+(i:Int)=(i:Int):=Int.zero_add _
   have e1:(x:Int) / 2^(0+(i:Int)).toNat=((x / 2^i:Nat):Int):=by rw[e0,Int.toNat_natCast];simp
   refine⟨_,rfl,rt,_,_,_,rfl,rfl,SqT.of (s5 _ _ hr),rfl,_,rfl,_,_,rfl,rfl,by omega,_,_,rfl,rfl,_,rfl,?_⟩
   have pss:=Z3e x i
   show NN (Builtin.bitAnd ((x:Int) / 2^(0+(i:Int)).toNat) 1 != 0) H5
   rw[e1,Z6v]
   refine kN _ _ (fun hb1=>?_) (fun hb0=>?_)
   ·have h1:x / 2^i%2=1:=by
     have:x / 2^i%2≠0:=fun z=>by rw[z] at hb1;cases hb1
     omega
    rw[if_pos h1] at pss
    refine⟨_,rfl,c5,Z0s s5 ha5,Z0c,?_⟩
    rw[pss,List.map_append,e0]
    rfl
   ·have h0:¬ x / 2^i%2=1:=fun z=>by rw[z] at hb0;cases hb0
    rw[if_neg h0,List.append_nil] at pss
    exact⟨s5,c5,by rw[pss]⟩
  ·obtain⟨v,e,qq⟩:=z
   exact⟨v,e,hm _ _ qq⟩
  rintro ys H5 ⟨S5,c5,rfl⟩
  have S05:=SS.trans S5
  have em:((places x ms.length).map fun p=>V.int (p:Nat))=((places x ms.length).map fun p=>((p:Nat):Int)).map V.int:=by rw[List.map_map];rfl
  have c5':=c5
  rw[em] at c5'
  have plen:(places x ms.length).length<=12:=Nat.le_trans (List.length_filter_le _ _) (by rw[List.length_range];exact h12)
  refine⟨_,rfl,a5,rfl,⟨_,SqL.of c5'⟩,fun a6 ha6=>?_⟩
  refine X0x (ns:=(places x ms.length).map fun p=>((p:Nat):Int)) (fr:=[some (.ref l)]) (fun z=>.ref (ps.getD z.toNat 0)) (SqL.of c5') (by rw[List.length_map];exact s64 (by omega)) ha6 (fun z H6 NN hz s6 kN=>?_) ?_
  ·obtain⟨p,hp,rfl⟩:=List.mem_map.mp hz
   obtain⟨pa,e1,_⟩:=hm.at (Z4e hp)
   have eg:ps.getD p 0=pa:=by rw[List.getD_eq_getElem?_getD,e1];rfl
   refine⟨_,rfl,_,rfl,l,_,_,_,rfl,rfl,s6.seq (S05.seq hS),Z4k (v:=.ref pa) (by rw[List.getElem?_map,e1];rfl),?_⟩
   rw[Int.toNat_natCast,eg] at kN
   exact kN
  intro H6 S6 c6
  have S06:=S05.trans S6
  refine⟨a6,(places x ms.length).map (fun p=>ps.getD p 0),chosen ms x ms.length,rfl,?_,(hm.same S06).pick _ (fun p hp=>Z4e hp),fun rp H7 S7 sp=>?_⟩
  ·rw[List.map_map] at c6
   rw[List.map_map]
   exact SqL.of c6
  have S07:=S06.trans S7
  have SM:SqT K H7 pm (L3 mark):=SqT.of (S07 _ _ hpm)
  have pq:=Y1b (chosen ms x ms.length) (0,0,0) (by decide)
  have bs:=X1o oks okk hs
  have qk:=okk.q
  refine⟨_,rfl,pm,_,_,_,rfl,rfl,SM,rfl,_,rfl,rp,_,_,_,rfl,rfl,sp,rfl,_,_,rfl,rfl,_,_,rfl,rfl,Z2e,_,rfl,t3,fun r hr7=>?_⟩
  have e7:(((mark.1:Int)-((prod (chosen ms x ms.length)).1:Nat))%4)=(((((mark.1:Int)-((prod (chosen ms x ms.length)).1:Nat))%4).toNat:Nat):Int):=by omega
  refine kq r _ (S07.trans (Z0f hr7 _)) (.inl ⟨(((mark.1:Int)-((prod (chosen ms x ms.length)).1:Nat))%4).toNat,x,a5,SS.free ha5,?_,Z0f hr7 _ _ _ (S7 _ _ (S6 _ _ c5)),by omega,?_⟩)
  ·rw[Z0c]
   show some (HO.tup [.str "made",.int (((mark.1:Int)-((prod (chosen ms x ms.length)).1:Nat))%4),.ref a5])=_
   rw[<-e7]
  ·rw[Z5l (by omega),bs]
   have pq':(prod (chosen ms x ms.length)).1<4:=pq
   refine Prod.ext ?_ rfl
   show ((((mark.1:Int)-((prod (chosen ms x ms.length)).1:Nat))%4).toNat+(prod (chosen ms x ms.length)).1)%4=mark.1
   omega
 ·have ST:SqT K H4 rt [.non,.ref q]:=SqT.of hr
  rw[Y4f] at clt
  refine⟨_,rfl,rt,_,_,_,rfl,rfl,ST,rfl,rfl,_,rfl,iteT ?_⟩
  refine⟨_,rfl,rt,_,_,_,rfl,rfl,ST,rfl,_,rfl,q,c,N,rfl,SqL.of hq,hN,clt,fun ra H5 S5 ha=>⟨t2,fun r hr5=>?_⟩⟩
  obtain⟨b1,b2⟩:=Y5c clt hc
  refine kq r _ ((SS.trans S5).trans (Z0f hr5 _)) (.inr ⟨ra,_,Z0c,Z0f hr5 _ _ _ ha,⟨Nat.mod_lt _ (by decide),?_,Nat.mod_lt _ (Nat.two_pow_pos N)⟩,?_,b1,b2⟩)
  ·rw[Nat.pow_add] at clt;exact Nat.div_lt_of_lt_mul clt
  ·show (pc (c / 2^N&&&c%2^N)%4+pc (c / 2^N&&&c%2^N))%2=0
   omega
theorem X2o (K:PySem.W.Frag):PySem.W.kitOne K (.type "list") (.type "list")=some true:=by unfold PySem.W.kitOne;rw[if_pos (by decide)]
theorem Y3r (K:PySem.W.Frag):PySem.W.kitOne K (.type "tuple") (.type "tuple")=some true:=by unfold PySem.W.kitOne;rw[if_pos (by decide)]
def Z3d:Sp:=fun vs H Q _=>∃ i:Int,vs=[.int i]/\Q (.bl true) H
def Z9l (K:PySem.W.Frag):Sp:=fun vs H Q _=>∃ (p p':Addr) (m m':Mk),vs=[.ref p,.ref p']/\SqT K H p (L3 m)/\SqT K H p' (L3 m')/\Q (.bl (decide (comm m m'=0))) H
end
end K62T
namespace M57
open Pc K51 M54
def xs (fs:List Nat)(c:Nat->Bool):Nat->Nat
 | 0=>0
 | m+1=>if c m then xs fs c m^^^fs.getD m 0 else xs fs c m
theorem xs_X (fs:List Nat)(x:Nat):∀ m,Xm fs x m=xs fs (fun j=>decide (bit x j=1)) m
 | 0=>rfl
 | m+1=>by
  unfold Xm xs
  rw[xs_X fs x m]
  by_cases h:bit x m=1<;>simp[h]
theorem Z7y {fs gs:List Nat}{c d:Nat->Bool}:∀ m,(∀ j,j<m->c j=d j/\fs.getD j 0=gs.getD j 0)->xs fs c m=xs gs d m
 | 0,_=>rfl
 | m+1,h=>by
  unfold xs
  rw[Z7y m fun j hj=>h j (by omega),(h m (by omega)).1,(h m (by omega)).2]
def fOf (ms:List Mk):List Nat:=ms.map (·.2.1)
def sOf (ms:List Mk):List Nat:=ms.map (·.2.2)
def Indep (ms:List Mk):Prop:=∀ c:Nat->Bool,xs (fOf ms) c ms.length=0->xs (sOf ms) c ms.length=0->∀ j,j<ms.length->c j=false
theorem pcl (o a b:Nat):pc (o&&&(a^^^b))%2=(pc (o&&&a)+pc (o&&&b))%2:=by rw[Nat.and_xor_distrib_left];exact pcx _ _
theorem Y7z {ms:List Mk}(I:Indep ms){x y:Nat}(hx:x<2^ms.length)(hy:y<2^ms.length)(hf:Xm (fOf ms) x ms.length=Xm (fOf ms) y ms.length)(hs:Xm (sOf ms) x ms.length=Xm (sOf ms) y ms.length):x=y:=by
 have lin:∀ (fs:List Nat) m,Xm fs (x^^^y) m=Xm fs x m^^^Xm fs y m:=by
  intro fs m
  induction m with
  | zero=>show 0=0^^^0;simp
  | succ m ih =>
   have b:=M54.Z2g m x y
   have bx:=Z1k x m
   have b2:=Z1k y m
   unfold Xm
   rw[ih,b]
   rcases (by omega:bit x m=0∨bit x m=1) with z | z<;>rcases (by omega:bit y m=0∨bit y m=1) with u | u<;>rw[z,u]
   ·simp
   ·simp[Nat.xor_assoc]
   ·simp only[show (1+0)%2=1 from rfl,if_true,show ¬ (0=1) by decide,if_false]
    rw[Nat.xor_assoc,Nat.xor_assoc,Nat.xor_comm (Xm fs y m)]
   ·simp only[show ¬ ((1+1)%2=1) by decide,if_true,if_false]
    rw[Nat.xor_assoc,Nat.xor_comm (Xm fs y m) (fs.getD m 0),<-Nat.xor_assoc (fs.getD m 0),Nat.xor_self,Nat.zero_xor]
 have zf:Xm (fOf ms) (x^^^y) ms.length=0:=by rw[lin,hf,Nat.xor_self]
 have zs:Xm (sOf ms) (x^^^y) ms.length=0:=by rw[lin,hs,Nat.xor_self]
 rw[xs_X] at zf zs
 refine Z2q ms.length x y hx hy fun n hn=>?_
 have h0:=of_decide_eq_false (I _ zf zs n hn)
 have b:=M54.Z2g n x y
 have b1:=Z1k x n
 have b2:=Z1k y n
 omega
theorem Y1c {x y:Nat}(m:Nat)(h:∀ n,n<m->bit x n=bit y n):places x m=places y m:=by
 unfold places
 refine List.filter_congr fun p hp=>?_
 have:=h p (List.mem_range.mp hp)
 unfold bit at this
 simp only[this]
theorem Y1v (ms:List Mk){x y:Nat}(m:Nat)(h:∀ n,n<m->bit x n=bit y n):chosen ms x m=chosen ms y m:=by
 unfold chosen
 rw[Y1c m h]
theorem Y8x (x m:Nat){n:Nat}(h:n<m):bit (x%2^m) n=bit x n:=by
 have t:=Nat.testBit_mod_two_pow x m n
 rw[Nat.testBit_eq_decide_div_mod_eq,Nat.testBit_eq_decide_div_mod_eq,decide_eq_true h,Bool.true_and,decide_eq_decide] at t
 have a:=Z1k (x%2^m) n
 have b:=Z1k x n
 unfold bit at *
 omega
theorem Z2s (ms:List Mk)(x m:Nat):chosen ms (x%2^m) m=chosen ms x m:=Y1v ms m fun n hn=>Y8x x m hn
theorem Z2i (ms:List Mk){x i:Nat}(h:x<2^i):∀ d,chosen ms x (i+d)=chosen ms x i
 | 0=>rfl
 | d+1=>by
  rw[<-Nat.add_assoc,Z2r,if_neg (by rw[Z4j h (by omega)];decide),List.append_nil]
  exact Z2i ms h d
def E (ms:List Mk)(x:Nat):Mk:=prod (chosen ms x ms.length)
theorem X8k (ms:List Mk)(x:Nat):E ms (x%2^ms.length)=E ms x:=by unfold E;rw[Z2s]
theorem Y0s (ms:List Mk):E ms 0=(0,0,0):=by
 unfold E
 have:=Z2i ms (x:=0) (i:=0) (by decide) ms.length
 rw[Nat.zero_add] at this
 rw[this]
 rfl
theorem Y4h (ms:List Mk){x i:Nat}(hx:x<2^i)(hi:i<ms.length):E ms (x+2^i)=mul (E ms x) (ms.getD i (0,0,0)):=by
 obtain⟨d,hd⟩:∃ d,ms.length=i+1+d:=⟨ms.length-(i+1),by omega⟩
 have lt:x+2^i<2^(i+1):=by rw[Nat.pow_succ];omega
 have b1:bit (x+2^i) i=1:=by
  unfold bit
  rw[Nat.add_div_right _ (Nat.two_pow_pos i),Nat.div_eq_of_lt hx]
 have lo:chosen ms (x+2^i) i=chosen ms x i:=by
  rw[<-Z2s,Nat.add_mod_right,Nat.mod_eq_of_lt hx]
 have e1:chosen ms (x+2^i) ms.length=chosen ms x i++[ms.getD i (0,0,0)]:=by
  rw[hd,Z2i ms lt d,Z2r,if_pos b1,lo]
 have e2:chosen ms x ms.length=chosen ms x i:=by
  rw[hd,Nat.add_assoc]
  exact Z2i ms hx _
 unfold E
 rw[e1,e2]
 unfold prod
 rw[List.foldl_append]
 rfl
theorem X8j (ms:List Mk){i:Nat}(hi:i<ms.length)(q:(ms.getD i (0,0,0)).1<4):E ms (2^i)=ms.getD i (0,0,0):=by
 have:=Y4h ms (x:=0) (Nat.two_pow_pos i) hi
 rw[Nat.zero_add,Y0s] at this
 rw[this]
 revert q
 generalize ms.getD i (0,0,0)=z
 obtain⟨a,b,c⟩:=z
 intro q
 unfold mul
 simp[Z2c,Nat.mod_eq_of_lt q]
theorem X1u {ms:List Mk}(I:Indep ms){x y:Nat}(hx:x<2^ms.length)(hy:y<2^ms.length)(h:(E ms x).2=(E ms y).2):x=y:=by
 refine Y7z I hx hy ?_ ?_
 ·have:=congrArg Prod.fst h
  unfold E at this
  rw[Z7o,Z7o] at this
  exact this
 ·have:=congrArg Prod.snd h
  unfold E at this
  rw[Z7n,Z7n] at this
  exact this
def In (ms:List Mk)(m:Mk):Prop:=∃ x,x<2^ms.length/\E ms x=m
theorem X9i {ms:List Mk}{m:Mk}{x:Nat}(h:(chosen ms x ms.length).foldl mul (0,0,0)=m):In ms m:=⟨x%2^ms.length,Nat.mod_lt _ (Nat.two_pow_pos _),by rw[X8k];exact h⟩
theorem fget (ms:List Mk)(j:Nat):(fOf ms).getD j 0=(ms.getD j (0,0,0)).2.1:=by
 unfold fOf
 rw[List.getD_eq_getElem?_getD,List.getD_eq_getElem?_getD,List.getElem?_map]
 cases ms[j]?<;>rfl
theorem sget (ms:List Mk)(j:Nat):(sOf ms).getD j 0=(ms.getD j (0,0,0)).2.2:=by
 unfold sOf
 rw[List.getD_eq_getElem?_getD,List.getD_eq_getElem?_getD,List.getElem?_map]
 cases ms[j]?<;>rfl
end M57
namespace M53
open Pc K51 M54 M57
structure IsLd (v n:Nat):Prop where
 one:bit v n=1
 low:∀ m,m<n->bit v m=0
theorem IsLd.uniq {v n n':Nat}(h:IsLd v n)(h':IsLd v n'):n=n':=by
 rcases Nat.lt_trichotomy n n' with lt | e | lt
 ·have:=h'.low n lt
  rw[h.one] at this
  cases this
 ·exact e
 ·have:=h.low n' lt
  rw[h'.one] at this
  cases this
structure Red (vs ls:List Nat):Prop where
 len:ls.length=vs.length
 ld:∀ i,i<vs.length->IsLd (vs.getD i 0) (ls.getD i 0)
 off:∀ i j,i<vs.length->j<vs.length->i≠j->bit (vs.getD i 0) (ls.getD j 0)=0
 rise:ls.Pairwise (·<·)
theorem Y1a {vs ls:List Nat}(R:Red vs ls)(c:Nat->Bool){j:Nat}(hj:j<vs.length):∀ m,m<=vs.length->bit (xs vs c m) (ls.getD j 0)=if j<m/\c j=true then 1 else 0
 | 0,_=>by unfold xs;rw[Z2u];simp
 | m+1,hm=>by
  have ih:=Y1a R c hj m (by omega)
  unfold xs
  by_cases e:j=m
  ·subst e
   rw[if_neg (by omega)] at ih
   cases hc:c j
   ·simp only[Bool.false_eq_true,if_false,and_false]
    exact ih
   ·simp only[if_true,and_true]
    rw[M54.Z2g,ih,(R.ld j hj).one,if_pos (by omega)]
  ·have off:=R.off m j (by omega) hj (Ne.symm e)
   have lt:(j<m+1/\c j=true) ↔ (j<m/\c j=true):=by constructor<;>rintro ⟨a,b⟩<;>exact⟨by omega,b⟩
   simp only[lt]
   split
   ·rw[M54.Z2g,ih,off]
    split<;>rfl
   ·exact ih
theorem Y0t {vs:List Nat}{c:Nat->Bool}{n:Nat}:∀ m,bit (xs vs c m) n=1->∃ i,i<m/\c i=true/\bit (vs.getD i 0) n=1
 | 0,h=>by unfold xs at h;rw[Z2u] at h;cases h
 | m+1,h=>by
  unfold xs at h
  by_cases hc:c m=true
  ·rw[if_pos hc,M54.Z2g] at h
   have b:=Z1k (vs.getD m 0) n
   by_cases e:bit (vs.getD m 0) n=1
   ·exact⟨m,by omega,hc,e⟩
   ·have a:=Z1k (xs vs c m) n
    have a1:bit (xs vs c m) n=1:=by omega
    obtain⟨i,hi,x,y⟩:=Y0t m a1
    exact⟨i,by omega,x,y⟩
  ·rw[if_neg hc] at h
   obtain⟨i,hi,x,y⟩:=Y0t m h
   exact⟨i,by omega,x,y⟩
theorem Y9o {vs ls:List Nat}(R:Red vs ls){c:Nat->Bool}{n:Nat}(h:IsLd (xs vs c vs.length) n):∃ i,i<vs.length/\ls.getD i 0=n:=by
 obtain⟨i,hi,hc,hb⟩:=Y0t _ h.one
 refine⟨i,hi,?_⟩
 have b:=Y1a R c hi vs.length (Nat.le_refl _)
 rw[if_pos ⟨hi,hc⟩] at b
 rcases Nat.lt_trichotomy (ls.getD i 0) n with lt | e | lt
 ·rw[h.low _ lt] at b;cases b
 ·exact e
 ·have:=(R.ld i hi).low n lt
  rw[hb] at this
  cases this
theorem Y6e:∀ {l r:List Nat},l.Pairwise (·<·)->r.Pairwise (·<·)->(∀ x,x∈l ↔ x∈r)->l=r
 | [],[],_,_,_=>rfl
 | [],y::r,_,_,h=>by have:=(h y).mpr List.mem_cons_self;cases this
 | x::l,[],_,_,h=>by have:=(h x).mp List.mem_cons_self;cases this
 | x::l,y::r,hl,hr,h=>by
  have hl':=List.pairwise_cons.mp hl
  have hr':=List.pairwise_cons.mp hr
  have exy:x=y:=by
   rcases List.mem_cons.mp ((h x).mp List.mem_cons_self) with e | m
   ·exact e
   ·rcases List.mem_cons.mp ((h y).mpr List.mem_cons_self) with e | m'
    ·exact e.symm
    ·have a:=hr'.1 x m
     have b:=hl'.1 y m'
     omega
  subst exy
  rw[Y6e hl'.2 hr'.2 fun z=>⟨fun m=>?_,fun m=>?_⟩]
  ·rcases List.mem_cons.mp ((h z).mp (List.mem_cons_of_mem _ m)) with e | q
   ·have:=hl'.1 z m;omega
   ·exact q
  ·rcases List.mem_cons.mp ((h z).mpr (List.mem_cons_of_mem _ m)) with e | q
   ·have:=hr'.1 z m;omega
   ·exact q
theorem Y8e {l:List Nat}{i:Nat}(h:i<l.length):l.getD i 0∈l:=by rw[List.getD_eq_getElem?_getD,List.getElem?_eq_getElem h];exact List.getElem_mem h
theorem mem_getD {l:List Nat}{x:Nat}(h:x∈l):∃ i,i<l.length/\l.getD i 0=x:=by
 obtain⟨i,hi,e⟩:=List.mem_iff_getElem.mp h
 exact⟨i,hi,by rw[List.getD_eq_getElem?_getD,List.getElem?_eq_getElem hi];exact e⟩
def Spans (vs ws:List Nat):Prop:=∀ i,i<ws.length->∃ c,ws.getD i 0=xs vs c vs.length
theorem Z9z {vs ws ls ks:List Nat}(R:Red vs ls)(S:Red ws ks)(h:Spans vs ws):∀ x,x∈ks->x∈ls:=by
 intro x hx
 obtain⟨i,hi,e⟩:=mem_getD hx
 rw[S.len] at hi
 obtain⟨c,hc⟩:=h i hi
 have ld:=S.ld i hi
 rw[hc,e] at ld
 obtain⟨j,hj,ej⟩:=Y9o R ld
 rw[<-ej]
 exact Y8e (by rw[R.len];exact hj)
theorem Y9n {vs ws ls ks:List Nat}(R:Red vs ls)(S:Red ws ks)(h:Spans vs ws)(h':Spans ws vs):vs=ws:=by
 have el:ls=ks:=Y6e R.rise S.rise fun x=>⟨Z9z S R h' x,Z9z R S h x⟩
 subst el
 have len:vs.length=ws.length:=by rw[<-R.len,S.len]
 have pt:∀ i,i<ws.length->ws.getD i 0=vs.getD i 0:=fun i hi=>by
  obtain⟨c,hc⟩:=h i hi
  have hi':i<vs.length:=by omega
  have only:∀ j,j<vs.length->c j=decide (j=i):=fun j hj=>by
   have b:=Y1a R c hj vs.length (Nat.le_refl _)
   rw[<-hc] at b
   by_cases e:j=i
   ·subst e
    rw[(S.ld j hi).one] at b
    split at b
    ·rename_i z;rw[z.2,decide_eq_true rfl]
    ·cases b
   ·rw[S.off i j hi (by omega) (Ne.symm e)] at b
    split at b
    ·cases b
    ·rename_i z
     rw[decide_eq_false e]
     cases hcj:c j
     ·rfl
     ·exact absurd ⟨hj,hcj⟩ z
  have one:∀ m,m<=vs.length->xs vs c m=if i<m then vs.getD i 0 else 0:=by
   intro m
   induction m with
   | zero=>intro _;rfl
   | succ m ih =>
    intro hm
    unfold xs
    rw[ih (by omega),only m (by omega)]
    by_cases e:m=i
    ·subst e;simp
    ·by_cases lt:i<m
     ·simp[e,lt,show i<m+1 by omega]
     ·simp[e,lt,show ¬ i<m+1 by omega]
  rw[hc,one _ (Nat.le_refl _),if_pos hi']
 refine List.ext_getElem len fun i h1 h2=>?_
 have:=pt i h2
 rw[List.getD_eq_getElem?_getD,List.getD_eq_getElem?_getD,List.getElem?_eq_getElem h1,List.getElem?_eq_getElem h2] at this
 exact this.symm
def cm (a b:Mk):Nat:=(pc (a.2.1&&&b.2.2)+pc (a.2.2&&&b.2.1))%2
def ev (a:Mk):Prop:=(a.1+pc (a.2.1&&&a.2.2))%2=0
theorem mul_assoc (a b c:Mk):mul (mul a b) c=mul a (mul b c):=by
 have h1:=pcx (a.2.2&&&c.2.1) (b.2.2&&&c.2.1)
 have h2:=pcx (a.2.2&&&b.2.1) (a.2.2&&&c.2.1)
 rw[<-Nat.and_xor_distrib_right] at h1
 rw[<-Nat.and_xor_distrib_left] at h2
 unfold mul
 refine Prod.ext ?_ (Prod.ext (Nat.xor_assoc _ _ _) (Nat.xor_assoc _ _ _))
 show ((a.1+b.1+2*pc (a.2.2&&&b.2.1))%4+c.1+2*pc ((a.2.2^^^b.2.2)&&&c.2.1))%4=(a.1+(b.1+c.1+2*pc (b.2.2&&&c.2.1))%4+2*pc (a.2.2&&&(b.2.1^^^c.2.1)))%4
 omega
theorem mul_comm {a b:Mk}(h:cm a b=0):mul a b=mul b a:=by
 unfold cm at h
 unfold mul
 refine Prod.ext ?_ (Prod.ext (Nat.xor_comm _ _) (Nat.xor_comm _ _))
 show (a.1+b.1+2*pc (a.2.2&&&b.2.1))%4=(b.1+a.1+2*pc (b.2.2&&&a.2.1))%4
 rw[Nat.and_comm b.2.2 a.2.1]
 omega
theorem mul_one {a:Mk}(h:a.1<4):mul a (0,0,0)=a:=by
 obtain⟨q,f,s⟩:=a
 unfold mul
 simp[Z2c,Nat.mod_eq_of_lt h]
theorem one_mul {a:Mk}(h:a.1<4):mul (0,0,0) a=a:=by
 obtain⟨q,f,s⟩:=a
 unfold mul
 simp[Z2c,Nat.mod_eq_of_lt h]
theorem Y3m {a:Mk}(h:ev a):mul a a=(0,0,0):=by
 unfold ev at h
 unfold mul
 rw[Nat.xor_self,Nat.xor_self,Nat.and_comm]
 refine Prod.ext ?_ rfl
 show (a.1+a.1+2*pc (a.2.1&&&a.2.2))%4=0
 omega
theorem X8c (o a b:Mk):cm o (mul a b)=(cm o a+cm o b)%2:=by
 unfold cm mul
 show (pc (o.2.1&&&(a.2.2^^^b.2.2))+pc (o.2.2&&&(a.2.1^^^b.2.1)))%2=_
 rw[Nat.and_xor_distrib_left,Nat.and_xor_distrib_left]
 have h1:=pcx (o.2.1&&&a.2.2) (o.2.1&&&b.2.2)
 have h2:=pcx (o.2.2&&&a.2.1) (o.2.2&&&b.2.1)
 omega
theorem Y8o (a b:Mk):cm a b=cm b a:=by
 unfold cm
 rw[Nat.and_comm a.2.1,Nat.and_comm a.2.2,Nat.add_comm]
structure Nice (ms:List Mk):Prop where
 q:∀ m∈ms,m.1<4
 even:∀ m∈ms,ev m
 com:∀ m∈ms,∀ r∈ms,cm m r=0
def G (ms:List Mk)(m:Nat)(g:Mk):Prop:=∃ x,g=prod (chosen ms x m)
theorem G_lt {ms:List Mk}{m:Nat}{g:Mk}(h:G ms m g):g.1<4:=by
 obtain⟨x,rfl⟩:=h
 exact Y1b _ _ (by decide)
theorem G_up {ms:List Mk}{m:Nat}{g:Mk}(h:G ms m g):G ms (m+1) g:=by
 obtain⟨x,rfl⟩:=h
 refine⟨x%2^m,?_⟩
 rw[Z2i ms (Nat.mod_lt _ (Nat.two_pow_pos m)) 1,Z2s]
theorem X5z {ms:List Mk}{m:Nat}{g:Mk}(h:G ms m g):G ms (m+1) (mul g (ms.getD m (0,0,0))):=by
 obtain⟨x,rfl⟩:=h
 have hx:=Nat.mod_lt x (Nat.two_pow_pos m)
 refine⟨x%2^m+2^m,?_⟩
 have b1:bit (x%2^m+2^m) m=1:=by
  unfold bit
  rw[Nat.add_div_right _ (Nat.two_pow_pos m),Nat.div_eq_of_lt hx]
 rw[Z2r,if_pos b1,<-Z2s ms (x%2^m+2^m),Nat.add_mod_right,Nat.mod_mod,Z2s]
 unfold prod
 rw[List.foldl_append]
 rfl
theorem Z7f {ms:List Mk}{m:Nat}{g:Mk}(h:G ms (m+1) g):G ms m g∨∃ g',G ms m g'/\g=mul g' (ms.getD m (0,0,0)):=by
 obtain⟨x,rfl⟩:=h
 rw[Z2r]
 split
 ·refine .inr ⟨_,⟨x,rfl⟩,?_⟩
  unfold prod
  rw[List.foldl_append]
  rfl
 ·rw[List.append_nil]
  exact .inl ⟨x,rfl⟩
theorem gmem {ms:List Mk}{i:Nat}(h:i<ms.length):ms.getD i (0,0,0)∈ms:=by rw[List.getD_eq_getElem?_getD,List.getElem?_eq_getElem h];exact List.getElem_mem h
theorem X8b (o:Mk):cm o (0,0,0)=0:=by unfold cm;simp[Z2c]
theorem Z9b {ms:List Mk}{o:Mk}(ho:∀ r∈ms,cm o r=0):∀ {m:Nat}{g:Mk},m<=ms.length->G ms m g->cm o g=0
 | 0,g,_,⟨x,e⟩=>by rw[e];exact X8b o
 | m+1,g,hm,h=>by
  rcases Z7f h with q | ⟨g',q,rfl⟩
  ·exact Z9b ho (by omega) q
  ·rw[X8c,Z9b ho (by omega) q,ho _ (gmem (by omega))]
theorem Y0r {ms:List Mk}(N:Nice ms):∀ {m:Nat}{g h:Mk},m<=ms.length->G ms m g->G ms m h->G ms m (mul g h)
 | 0,g,h,_,⟨x,e⟩,⟨y,e'⟩=>by
  have eg:g=(0,0,0):=e
  have eh:h=(0,0,0):=e'
  subst eg eh
  exact⟨0,one_mul (by decide)⟩
 | m+1,g,h,hm,hg,hh=>by
  have rm:=gmem (ms:=ms) (i:=m) (by omega)
  generalize er:ms.getD m (0,0,0)=r at *
  have up:∀ {z},G ms m z->G ms (m+1) (mul z r):=fun q=>by rw[<-er];exact X5z q
  rcases Z7f hg with qg | ⟨g',qg,eg⟩<;>rcases Z7f hh with qh | ⟨h',qh,eh⟩
  ·exact G_up (Y0r N (by omega) qg qh)
  ·rw[er] at eh
   subst eh
   rw[<-mul_assoc]
   exact up (Y0r N (by omega) qg qh)
  ·rw[er] at eg
   subst eg
   have c:cm r h=0:=Z9b (N.com r rm) (by omega) qh
   rw[mul_assoc,mul_comm c,<-mul_assoc]
   exact up (Y0r N (by omega) qg qh)
  ·rw[er] at eg eh
   subst eg eh
   have c:cm r h'=0:=Z9b (N.com r rm) (by omega) qh
   have e:mul (mul g' r) (mul h' r)=mul g' h':=by
    rw[mul_assoc,<-mul_assoc r h' r,mul_comm c,mul_assoc h' r r,Y3m (N.even r rm),mul_one (G_lt qh)]
   rw[e]
   exact G_up (Y0r N (by omega) qg qh)
theorem in_G {ms:List Mk}{g:Mk}:In ms g ↔ G ms ms.length g:=by
 constructor
 ·rintro ⟨x,_,e⟩
  exact⟨x,e.symm⟩
 ·rintro ⟨x,e⟩
  exact X9i e.symm
theorem Y8b {ms:List Mk}(N:Nice ms){g h:Mk}(hg:In ms g)(hh:In ms h):In ms (mul g h):=in_G.mpr (Y0r N (Nat.le_refl _) (in_G.mp hg) (in_G.mp hh))
theorem X7q (ms:List Mk):In ms (0,0,0):=⟨0,Nat.two_pow_pos _,Y0s ms⟩
theorem X7p {ms:List Mk}{i:Nat}(hi:i<ms.length)(q:(ms.getD i (0,0,0)).1<4):In ms (ms.getD i (0,0,0)):=⟨2^i,Nat.pow_lt_pow_right (by decide) hi,X8j ms hi q⟩
theorem Y8c {ms:List Mk}(N:Nice ms):∀ {rs:List Mk}{g:Mk},(∀ r∈rs,In ms r)->In ms g->In ms (rs.foldl mul g)
 | [],_,_,h=>h
 | r::rs,g,hr,h=>Y8c (rs:=rs) N (fun z hz=>hr z (List.mem_cons_of_mem _ hz)) (Y8b N h (hr r List.mem_cons_self))
theorem Y5a {ms:List Mk}{x:Nat}{m:Mk}(h:m∈chosen ms x ms.length):m∈ms:=by
 obtain⟨p,hp,rfl⟩:=List.mem_map.mp h
 exact gmem (Z4e hp)
theorem Z2n {ms rs:List Mk}(N:Nice ms)(h:∀ r∈rs,In ms r){g:Mk}(hg:In rs g):In ms g:=by
 obtain⟨x,_,rfl⟩:=hg
 exact Y8c N (fun r hr=>h r (Y5a hr)) (X7q ms)
theorem X7r {ms:List Mk}{o g:Mk}(ho:∀ r∈ms,cm o r=0)(h:In ms g):cm o g=0:=Z9b ho (Nat.le_refl _) (in_G.mp h)
theorem X5i {ms:List Mk}(I:Indep ms){g h:Mk}(hg:In ms g)(hh:In ms h)(e:g.2=h.2):g=h:=by
 obtain⟨x,hx,rfl⟩:=hg
 obtain⟨y,hy,rfl⟩:=hh
 rw[X1u I hx hy e]
abbrev z0:Mk:=(0,0,0)
def vec (m:Mk):Nat:=m.2.1+64*m.2.2
structure V6 (m:Mk):Prop where
 f:m.2.1<2^6
 s:m.2.2<2^6
theorem V6.mul {a b:Mk}(ha:V6 a)(hb:V6 b):V6 (mul a b):=⟨Nat.xor_lt_two_pow ha.f hb.f,Nat.xor_lt_two_pow ha.s hb.s⟩
theorem Z2a {f s:Nat}(h:f<2^6)(n:Nat):bit (f+64*s) n=if n<6 then bit f n else bit s (n-6):=by
 have h':f<64:=h
 by_cases c:n<6
 ·rw[if_pos c]
  unfold bit
  have:n=0∨n=1∨n=2∨n=3∨n=4∨n=5:=by omega
  rcases this with rfl | rfl | rfl | rfl | rfl | rfl<;>simp only[Nat.reducePow]<;>omega
 ·rw[if_neg c]
  obtain⟨k,rfl⟩:∃ k,n=6+k:=⟨n-6,by omega⟩
  unfold bit
  rw[Nat.pow_add,<-Nat.div_div_eq_div_mul,show (f+64*s) / 2^6=s by rw[show (2:Nat)^6=64 from rfl];omega,show 6+k-6=k by omega]
theorem Y0v {a b:Mk}(ha:V6 a)(hb:V6 b)(n:Nat):bit (vec (mul a b)) n=(bit (vec a) n+bit (vec b) n)%2:=by
 unfold vec
 rw[Z2a (ha.mul hb).f,Z2a ha.f,Z2a hb.f]
 unfold mul
 split
 ·exact M54.Z2g _ _ _
 ·exact M54.Z2g _ _ _
theorem Y7o (v:Nat):∀ N,(∃ n,n<N/\IsLd v n)∨∀ n,n<N->bit v n=0
 | 0=>.inr fun n h=>absurd h (Nat.not_lt_zero _)
 | N+1=>by
  rcases Y7o v N with ⟨n,hn,l⟩ | h
  ·exact .inl ⟨n,by omega,l⟩
  ·have b:=Z1k v N
   by_cases e:bit v N=1
   ·exact .inl ⟨N,by omega,e,h⟩
   ·refine .inr fun n hn=>?_
    by_cases en:n=N
    ·subst en;omega
    ·exact h n (by omega)
theorem X1g {m:Mk}(h:V6 m)(nz:m.2≠(0,0)):∃ n,n<12/\IsLd (vec m) n:=by
 rcases Y7o (vec m) 12 with q | q
 ·exact q
 ·exfalso
  refine nz (Prod.ext ?_ ?_)
  ·refine Z2q 6 _ _ h.f (by decide) fun n hn=>?_
   have:=q n (by omega)
   unfold vec at this
   rw[Z2a h.f,if_pos hn] at this
   rw[this,Z2u]
  ·refine Z2q 6 _ _ h.s (by decide) fun n hn=>?_
   have:=q (n+6) (by omega)
   unfold vec at this
   rw[Z2a h.f,if_neg (by omega),Nat.add_sub_cancel] at this
   rw[this,Z2u]
def wl (m r:Mk)(n:Nat):Mk:=if bit (vec m) n=1 then mul m r else m
theorem X7v {a b:Mk}(ha:ev a)(hb:ev b)(c:cm a b=0):ev (mul a b):=by
 unfold ev at *
 unfold cm at c
 unfold mul
 show ((a.1+b.1+2*pc (a.2.2&&&b.2.1))%4+pc ((a.2.1^^^b.2.1)&&&(a.2.2^^^b.2.2)))%2=0
 have h1:=pcx (a.2.1&&&(a.2.2^^^b.2.2)) (b.2.1&&&(a.2.2^^^b.2.2))
 rw[<-Nat.and_xor_distrib_right] at h1
 have h2:=pcx (a.2.1&&&a.2.2) (a.2.1&&&b.2.2)
 rw[<-Nat.and_xor_distrib_left] at h2
 have h3:=pcx (b.2.1&&&a.2.2) (b.2.1&&&b.2.2)
 rw[<-Nat.and_xor_distrib_left] at h3
 rw[Nat.and_comm a.2.2 b.2.1] at c
 omega
structure Tb (ms:List Mk):Prop where
 nice:Nice ms
 v6:∀ m∈ms,V6 m
 ind:Indep ms
theorem G_ev {ms:List Mk}(T:Tb ms):∀ {m:Nat}{g:Mk},m<=ms.length->G ms m g->ev g/\V6 g
 | 0,g,_,⟨x,e⟩=>by
  have:g=(0,0,0):=e
  subst this
  exact⟨by unfold ev;simp[Z2c],by decide,by decide⟩
 | m+1,g,hm,h=>by
  rcases Z7f h with q | ⟨g',q,rfl⟩
  ·exact G_ev T (by omega) q
  ·have rm:=gmem (ms:=ms) (i:=m) (by omega)
   have ih:=G_ev T (by omega:m<=ms.length) q
   refine⟨X7v ih.1 (T.nice.even _ rm) ?_,ih.2.mul (T.v6 _ rm)⟩
   rw[Y8o]
   exact Z9b (T.nice.com _ rm) (by omega) q
theorem G_cm {ms:List Mk}(T:Tb ms){m n:Nat}{g h:Mk}(hm:m<=ms.length)(hn:n<=ms.length)(hg:G ms m g)(hh:G ms n h):cm g h=0:=by
 refine Z9b (fun r hr=>?_) hn hh
 rw[Y8o]
 exact Z9b (fun r' hr'=>T.nice.com r hr r' hr') hm hg
theorem Y3n {a r:Mk}(ha:a.1<4)(hr:ev r):mul (mul a r) r=a:=by rw[mul_assoc,Y3m hr,mul_one ha]
structure Dn (ms:List Mk) (i:Nat) (D:List Mk) (ls:List Nat):Prop where
 len:D.length=i
 ll:ls.length=i
 g:∀ d∈D,G ms i d
 ld:∀ j,j<i->IsLd (vec (D.getD j z0)) (ls.getD j 0)
 off:∀ j k,j<i->k<i->j≠k->bit (vec (D.getD j z0)) (ls.getD k 0)=0
 back:∀ j,j<i->In D (ms.getD j z0)
theorem Dn.start (ms:List Mk):Dn ms 0 [] []:=⟨rfl,rfl,fun d h=>(nomatch h),fun j h=>absurd h (Nat.not_lt_zero _),fun j k h=>absurd h (Nat.not_lt_zero _),fun j h=>absurd h (Nat.not_lt_zero _)⟩
def fr (D:List Mk)(ls:List Nat)(row:Mk):Nat->Mk
 | 0=>row
 | t+1=>wl (fr D ls row t) (D.getD t z0) (ls.getD t 0)
theorem Y4g {ms:List Mk}(T:Tb ms){n:Nat}(hn:n<=ms.length){D:List Mk}(h:∀ d∈D,G ms n d):Nice D :=
 ⟨fun d hd=>G_lt (h d hd),fun d hd=>(G_ev T hn (h d hd)).1,fun d hd e he=>G_cm T hn hn (h d hd) (h e he)⟩
theorem Z5f {D:List Mk}(N:Nice D){d:Mk}(h:d∈D):In D d:=by
 obtain⟨i,hi,e⟩:=List.mem_iff_getElem.mp h
 have eg:D.getD i (0,0,0)=d:=by rw[List.getD_eq_getElem?_getD,List.getElem?_eq_getElem hi];exact e
 have:=X7p (ms:=D) hi (by rw[eg];exact N.q d h)
 rw[eg] at this
 exact this
structure Fr (ms:List Mk) (i:Nat) (D:List Mk) (ls:List Nat) (f:Mk) (t:Nat):Prop where
 g:∃ g,G ms i g/\f=mul g (ms.getD i z0)
 off:∀ k,k<t->bit (vec f) (ls.getD k 0)=0
 back:In (D++[f]) (ms.getD i z0)
theorem Fr.G {ms:List Mk}{i:Nat}{D:List Mk}{ls:List Nat}{f:Mk}{t:Nat}(F:Fr ms i D ls f t):G ms (i+1) f:=by
 obtain⟨g,hg,rfl⟩:=F.g
 exact X5z hg
theorem X5p {ms:List Mk}(T:Tb ms){i:Nat}{D:List Mk}{ls:List Nat}(hi:i<ms.length)(Q:Dn ms i D ls):∀ t,t<=i->Fr ms i D ls (fr D ls (ms.getD i z0) t) t
 | 0,_=>by
  have rm:=gmem (ms:=ms) hi
  have g0:G ms i z0:=⟨0,by
   have:=Z2i ms (x:=0) (i:=0) (by decide) i
   rw[Nat.zero_add] at this
   rw[this];rfl⟩
  have hr:G ms (i+1) (ms.getD i z0):=by
   have:=X5z g0
   rw[one_mul (T.nice.q _ rm)] at this
   exact this
  refine⟨⟨z0,g0,(one_mul (T.nice.q _ rm)).symm⟩,fun k h=>absurd h (Nat.not_lt_zero _),?_⟩
  refine Z5f (Y4g T (n:=i+1) (by omega) fun d hd=>?_) (List.mem_append_right _ (List.mem_singleton.mpr rfl))
  rcases List.mem_append.mp hd with q | q
  ·exact G_up (Q.g d q)
  ·rw[List.mem_singleton.mp q];exact hr
 | t+1,ht=>by
  have ih:=X5p T hi Q t (by omega)
  have rm:=gmem (ms:=ms) hi
  have dm:D.getD t z0∈D:=gmem (by rw[Q.len];omega)
  have dg:=Q.g _ dm
  have de:=G_ev T (by omega) dg
  show Fr ms i D ls (wl (fr D ls (ms.getD i z0) t) (D.getD t z0) (ls.getD t 0)) (t+1)
  have fG:=ih.G
  have fe:=G_ev T (by omega) fG
  generalize fr D ls (ms.getD i z0) t=f at *
  have bt:=(Q.ld t (by omega)).one
  have offd:∀ k,k<t->bit (vec (D.getD t z0)) (ls.getD k 0)=0:=fun k hk=>Q.off t k (by omega) (by omega) (by omega)
  generalize D.getD t z0=d at *
  unfold wl
  by_cases c:bit (vec f) (ls.getD t 0)=1
  ·rw[if_pos c]
   refine⟨?_,fun k hk=>?_,?_⟩
   ·obtain⟨g,hg,rfl⟩:=ih.g
    refine⟨mul g d,Y0r T.nice (by omega) hg dg,?_⟩
    have cd:cm (ms.getD i z0) d=0:=Z9b (T.nice.com _ rm) (by omega) dg
    rw[mul_assoc,mul_comm cd,<-mul_assoc]
   ·rw[Y0v fe.2 de.2]
    by_cases e:k=t
    ·subst e
     rw[c,bt]
    ·rw[ih.off k (by omega),offd k (by omega)]
   ·have N:Nice (D++[mul f d]):=Y4g T (n:=i+1) (by omega) fun x hx=>by
     rcases List.mem_append.mp hx with q | q
     ·exact G_up (Q.g x q)
     ·rw[List.mem_singleton.mp q]
      exact Y0r T.nice (by omega) fG (G_up dg)
    refine Z2n N (fun x hx=>?_) ih.back
    rcases List.mem_append.mp hx with q | q
    ·exact Z5f N (List.mem_append_left _ q)
    ·rw[List.mem_singleton.mp q]
     have:=Y8b N (Z5f N (List.mem_append_right _ (List.mem_singleton.mpr rfl))) (Z5f N (List.mem_append_left _ dm))
     rw[Y3n (G_lt fG) de.1] at this
     exact this
  ·rw[if_neg c]
   refine⟨ih.g,fun k hk=>?_,ih.back⟩
   by_cases e:k=t
   ·subst e
    have:=Z1k (vec f) (ls.getD k 0)
    omega
   ·exact ih.off k (by omega)
theorem Fr.nz {ms:List Mk}(T:Tb ms){i:Nat}{D:List Mk}{ls:List Nat}{f:Mk}{t:Nat}(hi:i<ms.length)(F:Fr ms i D ls f t):f.2≠(0,0):=by
 obtain⟨g,⟨x,rfl⟩,rfl⟩:=F.g
 intro e
 have hx:=Nat.mod_lt x (Nat.two_pow_pos i)
 have st:=Y4h ms hx hi
 have eE:E ms (x%2^i)=prod (chosen ms x i):=by
  unfold E
  obtain⟨d,hd⟩:∃ d,ms.length=i+d:=⟨ms.length-i,by omega⟩
  rw[hd,Z2i ms hx d,Z2s]
 rw[eE] at st
 have lt:x%2^i+2^i<2^ms.length:=by
  refine Nat.lt_of_lt_of_le (m:=2^(i+1)) ?_ (Nat.pow_le_pow_right (by decide) hi)
  rw[Nat.pow_succ];omega
 have:=X1u T.ind lt (Nat.two_pow_pos _) (by rw[st,Y0s];exact e)
 have:=Nat.two_pow_pos i
 omega
theorem Z7e {α:Type}{D:List α}{f z:α}{j:Nat}(h:j<D.length):(D++[f]).getD j z=D.getD j z:=by
 rw[List.getD_eq_getElem?_getD,List.getD_eq_getElem?_getD,List.getElem?_append_left h]
theorem Z7x {α:Type}{D:List α}{f z:α}{j:Nat}(h:j=D.length):(D++[f]).getD j z=f:=by
 subst h
 rw[List.getD_eq_getElem?_getD,List.getElem?_append_right (Nat.le_refl _),Nat.sub_self]
 rfl
theorem Y7i {D:List Mk}{h:Mk->Mk}{j:Nat}(hj:j<D.length):(D.map h).getD j z0=h (D.getD j z0):=by
 rw[List.getD_eq_getElem?_getD,List.getD_eq_getElem?_getD,List.getElem?_map,List.getElem?_eq_getElem hj]
 rfl
theorem Dn.next {ms:List Mk}(T:Tb ms){i:Nat}{D:List Mk}{ls:List Nat}{f:Mk}{n:Nat}(hi:i<ms.length)(Q:Dn ms i D ls)(F:Fr ms i D ls f i)(L:IsLd (vec f) n):Dn ms (i+1) (D.map (fun d=>wl d f n)++[f]) (ls++[n]):=by
 have fG:=F.G
 have fe:=G_ev T (by omega) fG
 have lD:=Q.len
 have lL:=Q.ll
 have lM:(D.map (fun d=>wl d f n)).length=i:=by rw[List.length_map];exact lD
 have eb:∀ d∈D,∀ k,bit (vec (wl d f n)) k=if bit (vec d) n=1 then (bit (vec d) k+bit (vec f) k)%2 else bit (vec d) k:=fun d hd k=>by
  unfold wl
  split
  ·exact Y0v (G_ev T (by omega) (Q.g d hd)).2 fe.2 k
  ·rfl
 have gD:∀ d∈D.map (fun d=>wl d f n)++[f],G ms (i+1) d:=fun d hd=>by
  rcases List.mem_append.mp hd with q | q
  ·obtain⟨d0,h0,rfl⟩:=List.mem_map.mp q
   show G ms (i+1) (wl d0 f n)
   unfold wl
   split
   ·exact Y0r T.nice (by omega) (G_up (Q.g d0 h0)) fG
   ·exact G_up (Q.g d0 h0)
  ·rw[List.mem_singleton.mp q];exact fG
 have N:=Y4g T (n:=i+1) (by omega) gD
 have fin:In (D.map (fun d=>wl d f n)++[f]) f:=Z5f N (List.mem_append_right _ (List.mem_singleton.mpr rfl))
 have din:∀ d∈D,In (D.map (fun d=>wl d f n)++[f]) d:=fun d hd=>by
  have h1:=Z5f N (List.mem_append_left _ (List.mem_map.mpr ⟨d,hd,rfl⟩))
  have h1:In (D.map (fun d=>wl d f n)++[f]) (wl d f n):=h1
  by_cases c:bit (vec d) n=1
  ·have e:wl d f n=mul d f:=by unfold wl;rw[if_pos c]
   have:=Y8b N h1 fin
   rw[e,Y3n (G_lt (Q.g d hd)) fe.1] at this
   exact this
  ·have e:wl d f n=d:=by unfold wl;rw[if_neg c]
   rw[e] at h1
   exact h1
 refine⟨by rw[List.length_append,lM];rfl,by rw[List.length_append,lL];rfl,gD,fun j hj=>?_,fun j k hj hk jk=>?_,fun j hj=>?_⟩
 ·by_cases e:j=i
  ·subst e
   rw[Z7x lM.symm,Z7x lL.symm]
   exact L
  ·have hj':j<i:=by omega
   rw[Z7e (by omega),Z7e (by omega),Y7i (by omega)]
   have dm:D.getD j z0∈D:=gmem (by omega)
   have l:=Q.ld j hj'
   have f0:=F.off j hj'
   have E0:=eb _ dm
   generalize D.getD j z0=d at *
   generalize ls.getD j 0=p at *
   by_cases c:bit (vec d) n=1
   ·have np:p<n:=by
     rcases Nat.lt_trichotomy p n with q | q | q
     ·exact q
     ·subst q;rw[L.one] at f0;cases f0
     ·rw[l.low n q] at c;cases c
    refine⟨?_,fun m hm=>?_⟩
    ·rw[E0,if_pos c,l.one,f0]
    ·rw[E0,if_pos c,l.low m hm,L.low m (by omega)]
   ·refine⟨?_,fun m hm=>?_⟩
    ·rw[E0,if_neg c];exact l.one
    ·rw[E0,if_neg c];exact l.low m hm
 ·by_cases e:j=i
  ·subst e
   rw[Z7x lM.symm,Z7e (by omega)]
   exact F.off k (by omega)
  ·rw[Z7e (by omega),Y7i (by omega)]
   have dm:D.getD j z0∈D:=gmem (by omega)
   have E0:=eb _ dm
   by_cases ek:k=i
   ·subst ek
    rw[Z7x lL.symm,E0]
    split
    ·rename_i c;rw[c,L.one]
    ·have:=Z1k (vec (D.getD j z0)) n;omega
   ·rw[Z7e (by omega),E0,Q.off j k (by omega) (by omega) jk,F.off k (by omega)]
    split<;>rfl
 ·by_cases e:j=i
  ·subst e
   refine Z2n N (fun x hx=>?_) F.back
   rcases List.mem_append.mp hx with q | q
   ·exact din x q
   ·rw[List.mem_singleton.mp q];exact fin
  ·exact Z2n N din (Q.back j (by omega))
end M53
namespace M53
open Pc K51 M54 M57
open Classical in
noncomputable def ldf (v:Nat):Nat:=if h:∃ n,IsLd v n then h.choose else 0
theorem X2l {v n:Nat}(h:IsLd v n):ldf v=n:=by
 have e:∃ n,IsLd v n:=⟨n,h⟩
 unfold ldf
 rw[dif_pos e]
 exact e.choose_spec.uniq h
noncomputable def ldm (m:Mk):Nat:=ldf (vec m)
def Off (d e:Mk):Prop:=bit (vec d) (ldm e)=0/\bit (vec e) (ldm d)=0
structure Dm (ms D:List Mk):Prop where
 g:∀ d∈D,In ms d
 ld:∀ d∈D,IsLd (vec d) (ldm d)
 off:D.Pairwise Off
 back:∀ m∈ms,In D m
theorem Dn.all {ms D:List Mk}{ls:List Nat}(Q:Dn ms ms.length D ls):Dm ms D:=by
 have el:∀ j,j<ms.length->ldm (D.getD j z0)=ls.getD j 0:=fun j hj=>X2l (Q.ld j hj)
 refine⟨fun d hd=>in_G.mpr (Q.g d hd),fun d hd=>?_,?_,fun m hm=>?_⟩
 ·obtain⟨j,hj,e⟩:=List.mem_iff_getElem.mp hd
  have eg:D.getD j z0=d:=by rw[List.getD_eq_getElem?_getD,List.getElem?_eq_getElem hj];exact e
  rw[Q.len] at hj
  have l:=Q.ld j hj
  rw[eg] at l
  unfold ldm
  rw[X2l l]
  exact l
 ·refine List.pairwise_iff_getElem.mpr fun i j hi hj ij=>?_
  have ei:D.getD i z0=D[i]:=by rw[List.getD_eq_getElem?_getD,List.getElem?_eq_getElem hi];rfl
  have ej:D.getD j z0=D[j]:=by rw[List.getD_eq_getElem?_getD,List.getElem?_eq_getElem hj];rfl
  rw[Q.len] at hi hj
  rw[<-ei,<-ej]
  unfold Off
  rw[el i hi,el j hj]
  exact⟨Q.off i j hi hj (by omega),Q.off j i hj hi (by omega)⟩
 ·obtain⟨j,hj,e⟩:=List.mem_iff_getElem.mp hm
  have eg:ms.getD j z0=m:=by rw[List.getD_eq_getElem?_getD,List.getElem?_eq_getElem hj];exact e
  rw[<-eg]
  exact Q.back j hj
theorem Z8r {ms:List Mk}(T:Tb ms){D:List Mk}(h:∀ d∈D,In ms d):Nice D:=Y4g T (Nat.le_refl _) fun d hd=>in_G.mp (h d hd)
theorem Dm.perm {ms D S:List Mk}(T:Tb ms)(Q:Dm ms D)(p:S.Perm D):Dm ms S:=by
 have gS:∀ d∈S,In ms d:=fun d hd=>Q.g d (p.mem_iff.mp hd)
 have N:=Z8r T gS
 refine⟨gS,fun d hd=>Q.ld d (p.mem_iff.mp hd),?_,fun m hm=>Z2n N (fun d hd=>Z5f N (p.mem_iff.mpr hd)) (Q.back m hm)⟩
 exact(p.pairwise_iff fun {a b} h=>⟨h.2,h.1⟩).mpr Q.off
theorem Y8a {ms:List Mk}(T:Tb ms){g:Mk}(h:In ms g):V6 g:=(G_ev T (Nat.le_refl _) (in_G.mp h)).2
theorem Y2a {m:Mk}(h:V6 m):vec m<2^12:=by
 have a:m.2.1<64:=h.f
 have b:m.2.2<64:=h.s
 unfold vec
 show _<4096
 omega
theorem Y5f {a b:Mk}(ha:V6 a)(hb:V6 b)(e:vec a=vec b):a.2=b.2:=by
 have a1:a.2.1<64:=ha.f
 have b1:b.2.1<64:=hb.f
 unfold vec at e
 exact Prod.ext (by omega) (by omega)
theorem X1z {fs gs:List Nat}{c:Nat->Bool}:∀ m,(∀ j,j<m->fs.getD j 0=gs.getD j 0)->xs fs c m=xs gs c m:=fun m h=>Z7y m fun j hj=>⟨rfl,h j hj⟩
theorem X2x {fs:List Nat}(c:Nat->Bool){N:Nat}:∀ m,(∀ j,j<m->fs.getD j 0<2^N)->xs fs c m<2^N
 | 0,_=>Nat.two_pow_pos N
 | m+1,h=>by
  have ih:=X2x c m fun j hj=>h j (by omega)
  unfold xs
  split
  ·exact Nat.xor_lt_two_pow ih (h m (by omega))
  ·exact ih
theorem sget0 (S:List Mk)(j:Nat):(S.map vec).getD j 0=vec (S.getD j z0):=by
 rw[List.getD_eq_getElem?_getD,List.getD_eq_getElem?_getD,List.getElem?_map]
 cases S[j]?<;>rfl
theorem X1y {S:List Mk}(c:Nat->Bool)(v:∀ j,j<S.length->V6 (S.getD j z0)):∀ m,m<=S.length->xs (S.map vec) c m=xs (fOf S) c m+64*xs (sOf S) c m
 | 0,_=>rfl
 | m+1,hm=>by
  have ih:=X1y c v m (by omega)
  unfold xs
  split
  ·rw[ih,sget0,fget,sget]
   have vm:=v m (by omega)
   have lf:=X2x (fs:=fOf S) c (N:=6) m fun j hj=>by rw[fget];exact(v j (by omega)).f
   have lsn:=X2x (fs:=sOf S) c (N:=6) m fun j hj=>by rw[sget];exact(v j (by omega)).s
   have key:=Y0v (a:=(0,xs (fOf S) c m,xs (sOf S) c m)) (b:=S.getD m z0) ⟨lf,lsn⟩ vm
   have l1:vec ((0,xs (fOf S) c m,xs (sOf S) c m):Mk)<2^12:=Y2a ⟨lf,lsn⟩
   have l2:=Y2a vm
   have l3:vec (mul (0,xs (fOf S) c m,xs (sOf S) c m) (S.getD m z0))<2^12:=Y2a (V6.mul ⟨lf,lsn⟩ vm)
   have:=Z2q 12 (vec ((0,xs (fOf S) c m,xs (sOf S) c m):Mk)^^^vec (S.getD m z0)) _ (Nat.xor_lt_two_pow l1 l2) l3 fun n hn=>by rw[M54.Z2g,key]
   exact this
  ·exact ih
theorem X9m {S:List Mk}(v:∀ j,j<S.length->V6 (S.getD j z0))(x:Nat):vec (E S x)=xs (S.map vec) (fun j=>decide (bit x j=1)) (S.map vec).length:=by
 rw[List.length_map,X1y _ v _ (Nat.le_refl _),<-xs_X,<-xs_X]
 unfold vec E
 rw[Z7o,Z7n]
 rfl
theorem spans {S R:List Mk}(v:∀ j,j<S.length->V6 (S.getD j z0))(h:∀ r∈R,In S r):Spans (S.map vec) (R.map vec):=by
 intro i hi
 rw[List.length_map] at hi
 obtain⟨x,_,e⟩:=h _ (gmem hi)
 exact⟨_,by rw[sget0];show vec (R.getD i (0,0,0))=_;rw[<-e];exact X9m v x⟩
theorem lget0 (S:List Mk){j:Nat}(hj:j<S.length):(S.map ldm).getD j 0=ldm (S.getD j z0):=by
 rw[List.getD_eq_getElem?_getD,List.getD_eq_getElem?_getD,List.getElem?_map,List.getElem?_eq_getElem hj]
 rfl
theorem Dm.red {ms S:List Mk}(Q:Dm ms S)(o:S.Pairwise fun a b=>ldm a<=ldm b):Red (S.map vec) (S.map ldm):=by
 have offs:∀ i j,i<S.length->j<S.length->i≠j->bit (vec (S.getD i z0)) (ldm (S.getD j z0))=0:=fun i j hi hj ij=>by
  have ei:S.getD i z0=S[i]:=by rw[List.getD_eq_getElem?_getD,List.getElem?_eq_getElem hi];rfl
  have ej:S.getD j z0=S[j]:=by rw[List.getD_eq_getElem?_getD,List.getElem?_eq_getElem hj];rfl
  rw[ei,ej]
  rcases Nat.lt_or_gt_of_ne ij with lt | lt
  ·exact(List.pairwise_iff_getElem.mp Q.off i j hi hj lt).1
  ·exact(List.pairwise_iff_getElem.mp Q.off j i hj hi lt).2
 refine⟨by rw[List.length_map,List.length_map],fun i hi=>?_,fun i j hi hj ij=>?_,?_⟩
 ·rw[List.length_map] at hi
  rw[sget0,lget0 S hi]
  exact Q.ld _ (gmem hi)
 ·rw[List.length_map] at hi hj
  rw[sget0,lget0 S hj]
  exact offs i j hi hj ij
 ·rw[List.pairwise_map]
  refine(List.Pairwise.and_mem.mp (o.and Q.off)).imp fun {a b} h=>?_
  obtain⟨ha,hb,le,off⟩:=h
  refine Nat.lt_of_le_of_ne le fun e=>?_
  have:=(Q.ld a ha).one
  rw[e,off.1] at this
  cases this
theorem Z9p {ms rs S R:List Mk}(T:Tb ms)(T':Tb rs)(Q:Dm ms S)(Q':Dm rs R)(o:S.Pairwise fun a b=>ldm a<=ldm b)(o':R.Pairwise fun a b=>ldm a<=ldm b)
  (h:∀ m∈ms,In rs m) (h':∀ r∈rs,In ms r):S=R:=by
 have NS:=Z8r T Q.g
 have NR:=Z8r T' Q'.g
 have SinR:∀ s∈S,In R s:=fun s hs=>Z2n NR Q'.back (Z2n T'.nice h (Q.g s hs))
 have RinS:∀ r∈R,In S r:=fun r hr=>Z2n NS Q.back (Z2n T.nice h' (Q'.g r hr))
 have vS:∀ j,j<S.length->V6 (S.getD j z0):=fun j hj=>Y8a T (Q.g _ (gmem hj))
 have vR:∀ j,j<R.length->V6 (R.getD j z0):=fun j hj=>Y8a T' (Q'.g _ (gmem hj))
 have e:=Y9n (Q.red o) (Q'.red o') (spans vS RinS) (spans vR SinR)
 have len:S.length=R.length:=by have:=congrArg List.length e;simpa using this
 refine List.ext_getElem len fun i h1 h2=>?_
 have e1:S.getD i z0=S[i]:=by rw[List.getD_eq_getElem?_getD,List.getElem?_eq_getElem h1];rfl
 have e2:R.getD i z0=R[i]:=by rw[List.getD_eq_getElem?_getD,List.getElem?_eq_getElem h2];rfl
 have ev:vec (S.getD i z0)=vec (R.getD i z0):=by rw[<-sget0,<-sget0,e]
 rw[<-e1,<-e2]
 exact X5i T.ind (Q.g _ (gmem h1)) (Z2n T.nice h' (Q'.g _ (gmem h2))) (Y5f (vS i h1) (vR i h2) ev)
end M53
namespace M53
open Pc K51 M54 M57
def num (c:Nat->Bool):Nat->Nat
 | 0=>0
 | m+1=>num c m+(if c m then 2^m else 0)
theorem Y7f (c:Nat->Bool):∀ m,num c m<2^m
 | 0=>Nat.one_pos
 | m+1=>by
  have:=Y7f c m
  unfold num
  rw[Nat.pow_succ]
  split<;>omega
theorem Y7g (c:Nat->Bool):∀ m j,j<m->decide (bit (num c m) j=1)=c j
 | m+1,j,hj=>by
  have lt:=Y7f c m
  unfold num
  by_cases e:j=m
  ·subst e
   cases hc:c j
   ·simp[Z4j lt (Nat.le_refl _)]
   ·simp only[if_true]
    have:bit (num c j+2^j) j=1:=by
     unfold bit
     rw[Nat.add_div_right _ (Nat.two_pow_pos j),Nat.div_eq_of_lt lt]
    rw[this];rfl
  ·have ih:=Y7g c m j (by omega)
   split
   ·have:bit (num c m+2^m) j=bit (num c m) j:=by
     rw[<-Y8x (num c m+2^m) m (by omega),Nat.add_mod_right,Nat.mod_eq_of_lt lt]
    rw[this];exact ih
   ·rw[Nat.add_zero];exact ih
theorem X1v (ms:List Mk)(c:Nat->Bool):(E ms (num c ms.length)).2=(xs (fOf ms) c ms.length,xs (sOf ms) c ms.length):=by
 have e:∀ fs:List Nat,Xm fs (num c ms.length) ms.length=xs fs c ms.length:=fun fs=>by
  rw[xs_X]
  exact Z7y _ fun j hj=>⟨Y7g c _ j hj,rfl⟩
 unfold E
 refine Prod.ext ?_ ?_
 ·show (prod (chosen ms (num c ms.length) ms.length)).2.1=_
  rw[Z7o];exact e _
 ·show (prod (chosen ms (num c ms.length) ms.length)).2.2=_
  rw[Z7n];exact e _
theorem Y4z {ms:List Mk}{m:Mk}(I:Indep ms)(h:∀ x,x<2^ms.length->(E ms x).2≠m.2):Indep (ms++[m]):=by
 intro c hf hs j hj
 have ll:(ms++[m]).length=ms.length+1:=by rw[List.length_append];rfl
 have ef:∀ k,k<ms.length->(fOf (ms++[m])).getD k 0=(fOf ms).getD k 0:=fun k hk=>by rw[fget,fget,Z7e hk]
 have es:∀ k,k<ms.length->(sOf (ms++[m])).getD k 0=(sOf ms).getD k 0:=fun k hk=>by rw[sget,sget,Z7e hk]
 have lf:(fOf (ms++[m])).getD ms.length 0=m.2.1:=by rw[fget,Z7x rfl]
 have lsn:(sOf (ms++[m])).getD ms.length 0=m.2.2:=by rw[sget,Z7x rfl]
 have xf:=X1z (fs:=fOf (ms++[m])) (gs:=fOf ms) (c:=c) ms.length ef
 have xsn:=X1z (fs:=sOf (ms++[m])) (gs:=sOf ms) (c:=c) ms.length es
 rw[ll] at hf hs hj
 unfold xs at hf hs
 rw[lf,xf] at hf
 rw[lsn,xsn] at hs
 have zx:∀ {a b:Nat},a^^^b=0->a=b:=fun {a b} z=>by
  have:=congrArg (·^^^b) z
  simpa [Nat.xor_assoc] using this
 cases hc:c ms.length with
 | true =>
  rw[hc,if_pos rfl] at hf hs
  refine absurd ?_ (h (num c ms.length) (Y7f c _))
  rw[X1v,zx hf,zx hs]
 | false =>
  rw[hc,if_neg (by decide)] at hf hs
  by_cases e:j=ms.length
  ·rw[e];exact hc
  ·exact I c hf hs j (by omega)
end M53
namespace K62T
open PySem PySem.Spec PyProof.Rows L2 Pc K51 M54 M57
open M53 (IsLd vec V6 wl Z2a)
def Y7n (w n:Nat):Bool:=decide (Builtin.Int.intBits (Builtin.bitAnd (w:Int) (-(w:Int)))=n+1) && decide (bit w n=1) && (List.range n).all fun m=>decide (bit w m=0)
theorem Y7m:((List.range 64).all fun w=>decide (w=0) || (List.range 6).any fun n=>Y7n w n)=true:=by decide +kernel
theorem X0w {w:Nat}(h:w<64)(h0:w≠0):∃ n:Nat,n<6/\Builtin.Int.intBits (Builtin.bitAnd (w:Int) (-(w:Int)))=n+1/\IsLd w n:=by
 have a:=List.all_eq_true.mp Y7m w (List.mem_range.mpr h)
 rw[decide_eq_false h0,Bool.false_or] at a
 obtain⟨n,hn,e⟩:=List.any_eq_true.mp a
 unfold Y7n at e
 rw[Bool.and_eq_true,Bool.and_eq_true] at e
 exact⟨n,List.mem_range.mp hn,of_decide_eq_true e.1.1,of_decide_eq_true e.1.2,fun m hm=>of_decide_eq_true (List.all_eq_true.mp e.2 m (List.mem_range.mpr hm))⟩
def Y5t:Sp:=fun vs H Q _=>∃ w:Nat,vs=[.int w]/\w<64/\w≠0/\∀ n:Nat,n<6->IsLd w n->Q (.int n) H
def spLead (K:PySem.W.Frag):Sp:=fun vs H Q _=>∃ (p:Addr) (m:Mk) (n:Nat),vs=[.ref p]/\SqT K H p (L3 m)/\V6 m/\IsLd (vec m) n/\Q (.int n) H
def spHas (K:PySem.W.Frag):Sp:=fun vs H Q _=>∃ (p:Addr) (m:Mk) (n:Nat),vs=[.ref p,.int n]/\SqT K H p (L3 m)/\V6 m/\Q (.bl (decide (bit (vec m) n=1))) H
def Z9f:Sp:=fun vs H Q _=>∃ (p r:Addr) (m d:Mk) (n:Nat),vs=[.ref p,.ref r]/\H p=some (T3 m)/\H r=some (T3 d)/\V6 m/\V6 d/\IsLd (vec d) n/\∀ (q:Addr) (H':Hp),Same H H'->H' q=some (T3 (wl m d n))->Q (.ref q) H'
section
variable {P:Program}{w:World}{K:PySem.W.Frag}{mg:Str->Option Value}{base:Heap}{k:Nat}{h:Heap}
theorem sc_least:FnScope ["word"] ["word"] (Z0i (top 44)):=fS
theorem X0l (F:FunAt K "least_cell" (top 44) .none)(X:K.In h)(G:h.Ns mainGlobals mg):Cal P w K mg base (k+1) "least_cell" ["word"] Y5t:=by
 have nd:=sc_least.nd
 refine F.cal X G sc_least (bnd1 fun _ _ _ _ _ _ _=>rfl) (fun vs H Q E' h=>?_) (fun f cdv A outer s H vs Q E' hr h=>?_)
 ·obtain⟨n,rfl,_⟩:=h;rfl
 obtain⟨x,rfl,x64,x0,q⟩:=h
 obtain⟨n,n6,e,l⟩:=X0w x64 x0
 refine⟨_,(@Z0g _ _ _ (Z0j (Z0h Z1z (Z5b PySem.F.plainAttrs_int PySem.F.slot_int_bit_length PySem.F.type_int_bit_length Z2l (Z0h Z1t (pv 0) (Y4n Z7i (pv 0)))) Z0b))),?_⟩
 try dsimp only[cxK]
 refine⟨_,rfl,_,rfl,_,rfl,_,_,rfl,rfl,rfl,_,rfl,rfl,_,_,rfl,rfl,?_⟩
 show Q (.int (((Builtin.Int.intBits (Builtin.bitAnd (x:Int) (-(x:Int))):Nat):Int)-1)) H
 rw[e,show (((n+1:Nat):Int)-1)=(n:Int) by omega]
 exact q n n6 l
theorem sc_lead:FnScope ["mark"] ["mark"] (Z0i (top 43)):=fS
theorem X4f (F:FunAt K "lead" (top 43) .none)(X:K.In h)(G:h.Ns mainGlobals mg){tF:Tok}(gF:mg "FIRST_SIGN_LEAD"=some (.int 6 tF))(c_least_cell:Cal P w K mg base k "least_cell" ["word"] Y5t):Cal P w K mg base (k+1) "lead" ["mark"] (spLead K):=by
 have nd:=sc_lead.nd
 refine F.cal X G sc_lead (bnd1 fun _ _ _ _ _ _ _=>rfl) (fun vs H Q E' h=>?_) (fun f cdv A outer s H vs Q E' hr h=>?_)
 ·obtain⟨p,m,n,rfl,_⟩:=h;rfl
 obtain⟨p,m,n,rfl,S,v6,l,q⟩:=h
 refine⟨_,(@Z0e _ _ _ _ _ (Z0y (Z0o Z5d (Z0n Z0l (pv 0) Z0b (fun _ _=>rfl)) Z0b (nomark _))
   (@Z0g _ _ _ (Z0j (Z0k c_least_cell hr rfl (Z0a (Z0n Z0l (pv 0) Z0b (fun _ _=>rfl)) Z0d))))
   Z0p)
  (@Z0g _ _ _ (Z0j (Z0h Z1c (Z3g (v:=.int 6) rfl gF ⟨tF,rfl⟩) (Z0k c_least_cell hr rfl (Z0a (Z0n Z0l (pv 0) Z0b (fun _ _=>rfl)) Z0d)))))),?_⟩
 try dsimp only[cxK]
 refine⟨_,rfl,p,_,_,_,rfl,rfl,S,rfl,rfl,_,rfl,neI (fun z=>?_) (fun z=>?_)⟩
 ·have f0:m.2.1≠0:=fun e=>z (by rw[e];rfl)
  refine⟨_,rfl,p,_,_,_,rfl,rfl,S,rfl,m.2.1,rfl,v6.f,f0,fun n' h6 l'=>?_⟩
  have l2:IsLd (vec m) n':=⟨by unfold vec;rw[Z2a v6.f,if_pos h6];exact l'.one,fun k hk=>by unfold vec;rw[Z2a v6.f,if_pos (by omega)];exact l'.low k hk⟩
  rw[l2.uniq l]
  exact q
 ·have f0:m.2.1=0:=by
   have:=z
   omega
  have s0:m.2.2≠0:=fun e=>by
   have:=l.one
   unfold vec at this
   rw[f0,e,Z2u] at this
   cases this
  refine⟨_,rfl,p,_,_,_,rfl,rfl,S,rfl,m.2.2,rfl,v6.s,s0,fun n' h6 l'=>⟨_,_,rfl,rfl,?_⟩⟩
  have l2:IsLd (vec m) (6+n'):=⟨by unfold vec;rw[Z2a v6.f,if_neg (by omega),show 6+n'-6=n' by omega];exact l'.one,fun k hk=>by
   unfold vec
   rw[Z2a v6.f]
   split
   ·rw[f0,Z2u]
   ·exact l'.low _ (by omega)⟩
  have e:=l2.uniq l
  show Q (.int (6+(n':Int))) H
  rw[show (6+(n':Int))=((6+n':Nat):Int) by omega,e]
  exact q
theorem sc_has:FnScope ["mark","place"] ["mark","place"] (Z0i (top 45)):=fS
theorem X7b (F:FunAt K "has_at_lead" (top 45) .none)(X:K.In h)(G:h.Ns mainGlobals mg){tF:Tok}(gF:mg "FIRST_SIGN_LEAD"=some (.int 6 tF)):Cal P w K mg base (k+1) "has_at_lead" ["mark","place"] (spHas K):=by
 have nd:=sc_has.nd
 refine F.cal X G sc_has (bnd2 fun _ _ _ _ _ _ _ _=>rfl) (fun vs H Q E' h=>?_) (fun f cdv A outer s H vs Q E' hr h=>?_)
 ·obtain⟨p,m,n,rfl,_⟩:=h;rfl
 obtain⟨p,m,n,rfl,S,v6,q⟩:=h
 have one:∀ (x j:Nat),decide (V.int (Builtin.bitAnd ((x:Int) / 2^((j:Int)).toNat) 1)=V.int 1)=decide (bit x j=1):=fun x j=>by
  rw[Int.toNat_natCast,show (x:Int) / 2^j=((x / 2^j:Nat):Int) by simp,Z6v,decide_eq_decide]
  unfold bit
  constructor
  ·intro z;have:=V.int.inj z;omega
  ·intro z;congr 1;omega
 refine⟨_,(@Z0e _ _ _ _ _ (Z0y (Z0o Z6u (pv 1) (Z3g (v:=.int 6) rfl gF ⟨tF,rfl⟩) (nomark _))
   (@Z0g _ _ _ (Z0j (Z1n Z1u (Z0h Z1t (Z0h Z4h (Z0n Z0l (pv 0) Z0b (fun _ _=>rfl)) (pv 1)) Z0b) Z0b (nomark _))))
   Z0p)
  (@Z0g _ _ _ (Z0j (Z1n Z1u (Z0h Z1t (Z0h Z4h (Z0n Z0l (pv 0) Z0b (fun _ _=>rfl)) (Z0h Z1z (pv 1) (Z3g (v:=.int 6) rfl gF ⟨tF,rfl⟩))) Z0b) Z0b (nomark _))))),?_⟩
 try dsimp only[cxK]
 refine⟨_,rfl,_,_,rfl,rfl,_,rfl,decI (fun c=>?_) (fun c=>?_)⟩
 ·refine⟨_,rfl,p,_,_,_,rfl,rfl,S,rfl,_,rfl,_,_,rfl,rfl,by omega,_,_,rfl,rfl,rfl,?_⟩
  show Q (.bl (decide (V.int (Builtin.bitAnd ((m.2.1:Int) / 2^((n:Int)).toNat) 1)=V.int 1))) H
  rw[one]
  unfold vec at q
  rw[Z2a v6.f,if_pos (by omega)] at q
  exact q
 ·refine⟨_,rfl,p,_,_,_,rfl,rfl,S,rfl,_,rfl,_,_,rfl,rfl,_,_,rfl,rfl,by omega,_,_,rfl,rfl,rfl,?_⟩
  show Q (.bl (decide (V.int (Builtin.bitAnd ((m.2.2:Int) / 2^((n:Int)-6).toNat) 1)=V.int 1))) H
  rw[show ((n:Int)-6)=((n-6:Nat):Int) by omega,one]
  unfold vec at q
  rw[Z2a v6.f,if_neg (by omega)] at q
  exact q
theorem sc_without:FnScope ["mark","row"] ["mark","row"] (Z0i (top 42)):=fS
theorem Y4p (F:FunAt K "without_lead" (top 42) .none)(X:K.In h)(G:h.Ns mainGlobals mg)(c_has_at_lead:Cal P w K mg base k "has_at_lead" ["mark","place"] (spHas K))(c_lead:Cal P w K mg base k "lead" ["mark"] (spLead K))(c_product:Cal P w K mg base k "product" ["one","other"] (Z4b K)) :
  Cal P w K mg base (k+1) "without_lead" ["mark","row"] Z9f:=by
 have nd:=sc_without.nd
 refine F.cal X G sc_without (bnd2 fun _ _ _ _ _ _ _ _=>rfl) (fun vs H Q E' h=>?_) (fun f cdv A outer s H vs Q E' hr h=>?_)
 ·obtain⟨p,r,m,d,n,rfl,_⟩:=h;rfl
 obtain⟨p,r,m,d,n,rfl,hp,hr0,vm,vd,l,kq⟩:=h
 refine⟨_,(@Z0g _ _ _ (Z0j (Z5a (Z1l (Z0k c_has_at_lead hr rfl (Z0a (pv 0) (Z0a (Z0k c_lead hr rfl (Z0a (pv 1) Z0d)) Z0d)))) (Z0k c_product hr rfl (Z0a (pv 0) (Z0a (pv 1) Z0d))) (pv 0)))),?_⟩
 try dsimp only[cxK]
 refine⟨_,rfl,_,rfl,r,d,n,rfl,SqT.of hr0,vd,l,p,m,n,rfl,SqT.of hp,vm,_,rfl,decI (fun c=>?_) (fun c=>?_)⟩
 ·refine⟨_,rfl,_,rfl,p,r,m,d,rfl,SqT.of hp,SqT.of hr0,fun q H' S e=>kq q H' S ?_⟩
  unfold wl
  rw[if_pos c]
  exact e
 ·refine⟨_,rfl,kq p H (Same.refl _) ?_⟩
  unfold wl
  rw[if_neg c]
  exact hp
end
end K62T
namespace K62T
open PySem PySem.Spec PyProof.Rows L2 Pc K51 M54 M57
open M53 (IsLd vec V6 wl Z2a ev)
def spWord:Sp:=fun vs H Q _=>∃ x N:Nat,vs=[.int x,.int N]/\x<2^N/\Q (.bl true) H
def spMark:Sp:=fun vs H Q _=>∃ (p:Addr) (m:Mk) (N:Nat),vs=[.ref p,.int N]/\H p=some (T3 m)/\Okm N m/\Q (.bl true) H
def spEven (K:PySem.W.Frag):Sp:=fun vs H Q _=>∃ (p:Addr) (m:Mk),vs=[.ref p]/\SqT K H p (L3 m)/\ev m/\Q (.bl true) H
def spEvM:Sp:=fun vs H Q _=>∃ (p:Addr) (m:Mk) (N:Nat),vs=[.ref p,.int N]/\H p=some (T3 m)/\Okm N m/\ev m/\Q (.bl true) H
def Y2v (K:PySem.W.Frag):Sp:=fun vs H Q _=>∃ (pm l:Addr) (ps:List Addr) (ms:List Mk) (m:Mk),vs=[.ref pm,.ref l]/\H pm=some (T3 m)/\SqL K H l (ps.map V.ref)/\Mks H ps ms/\ms.length<=12/\(∀ r∈ms,comm m r=0)/\∀ H',Same H H'->Q (.bl true) H'
theorem Z4m (n:Nat):((List.replicate n true).all id)=true:=by rw[List.all_replicate];split<;>rfl
section
variable {P:Program}{w:World}{K:PySem.W.Frag}{mg:Str->Option Value}{base:Heap}{k:Nat}{h:Heap}
theorem sc_iswhole:FnScope ["thing"] ["thing"] (Z0i (top 7)):=fS
theorem Z5n (F:FunAt K "is_whole" (top 7) .none)(X:K.In h)(G:h.Ns mainGlobals mg)(B:Bs mg):Cal P w K mg base (k+1) "is_whole" ["thing"] Z3d:=by
 have nd:=sc_iswhole.nd
 refine F.cal X G sc_iswhole (bnd1 fun _ _ _ _ _ _ _=>rfl) (fun vs H Q E h=>?_) (fun f cdv A outer s H vs Q E hr h=>?_)
 ·obtain⟨i,rfl,_⟩:=h;rfl
 obtain⟨i,rfl,q⟩:=h
 refine⟨_,(@Z0g _ _ _ (Z0j (Z5c (Z0q Z1f rfl B.isinstance boot_isinstance (Z0a (pv 0) (Z0a (Z2x (v:=.ty "int") rfl B.int boot_int rfl) Z0d))) (Z3x (Y3e (Z0q Z1f rfl B.isinstance boot_isinstance (Z0a (pv 0) (Z0a (Z2x (v:=.ty "bool") rfl B.bool boot_bool rfl) Z0d)))))))),?_⟩
 try dsimp only[cxK]
 refine⟨_,rfl,_,_,_,true,rfl,TyOf.int i,Y7s K,_,rfl,iteT ?_⟩
 exact⟨_,rfl,_,_,_,false,rfl,TyOf.int i,Y7t K,_,rfl,q⟩
theorem sc_isword:FnScope ["thing","cells"] ["thing","cells"] (Z0i (top 17)):=fS
theorem Z6w (F:FunAt K "is_word" (top 17) .none)(X:K.In h)(G:h.Ns mainGlobals mg)(c_is_whole:Cal P w K mg base k "is_whole" ["thing"] Z3d):Cal P w K mg base (k+1) "is_word" ["thing","cells"] spWord:=by
 have nd:=sc_isword.nd
 refine F.cal X G sc_isword (bnd2 fun _ _ _ _ _ _ _ _=>rfl) (fun vs H Q E h=>?_) (fun f cdv A outer s H vs Q E hr h=>?_)
 ·obtain⟨x,N,rfl,_⟩:=h;rfl
 obtain⟨x,N,rfl,lt,q⟩:=h
 refine⟨_,(@Z0e _ _ _ _ _ (Z0y (Z2f (PW.pt (Z6q (Z1l (Z0k c_is_whole hr rfl (Z0a (pv 0) Z0d))) (Z4q (Z1l (Z0k c_is_whole hr rfl (Z0a (pv 1) Z0d)))))))
   (@Z0g _ _ _ (Z0j Z2w))
   Z0p)
  (@Z0g _ _ _ (Z0j (Z5c (Z1n Y4o (pv 0) Z0b (nomark _)) (Z3x (Z1n X3x (Z5b PySem.F.plainAttrs_int PySem.F.slot_int_bit_length PySem.F.type_int_bit_length Z2l (pv 0)) (pv 1) (nomark _))))))),?_⟩
 try dsimp only[cxK]
 refine⟨_,rfl,_,rfl,_,rfl,iteT ⟨_,rfl,_,rfl,_,rfl,iteF ?_⟩⟩
 refine⟨_,rfl,_,_,rfl,rfl,_,rfl,decI (fun _=>?_) (fun z=>absurd (show (x:Int)>=0 by omega) z)⟩
 refine⟨_,rfl,rfl,_,rfl,rfl,_,rfl,_,_,rfl,rfl,?_⟩
 have b:=bl_le.mpr lt
 rw[Z8z]
 show Q (.bl (decide (((bl x:Nat):Int)<=(N:Int)))) H
 rw[decide_eq_true (by omega)]
 exact q
theorem sc_ismark:FnScope ["thing","cells"] ["thing","cells"] (Z0i (top 18)):=fS
theorem Y6z (F:FunAt K "is_mark" (top 18) .none)(X:K.In h)(G:h.Ns mainGlobals mg)(B:Bs mg)(c_is_whole:Cal P w K mg base k "is_whole" ["thing"] Z3d)(c_is_word:Cal P w K mg base k "is_word" ["thing","cells"] spWord):Cal P w K mg base (k+1) "is_mark" ["thing","cells"] spMark:=by
 have nd:=sc_ismark.nd
 refine F.cal X G sc_ismark (bnd2 fun _ _ _ _ _ _ _ _=>rfl) (fun vs H Q E' h=>?_) (fun f cdv A outer s H vs Q E' hr h=>?_)
 ·obtain⟨p,m,N,rfl,_⟩:=h;rfl
 obtain⟨p,m,N,rfl,hp,ok,q⟩:=h
 have SP:SqT K H p (L3 m):=SqT.of hp
 have q4:=ok.q
 refine⟨_,(@Z0e _ _ _ _ _ (Z0y (PW.pt (Z3y (Z2f (Z1l (Z0q Z1f rfl B.isinstance boot_isinstance (Z0a (pv 0) (Z0a (Z2x (v:=.ty "tuple") rfl B.tuple boot_tuple rfl) Z0d))))) (Z3w (Z0o Z5d (Z0q Z0v rfl B.len PySem.boot_len (Z0a (pv 0) Z0d)) Z0b (nomark _)))))
   (@Z0g _ _ _ (Z0j Z2w))
   Z0p)
  (@Z0e _ _ _ _ _ (Z0y (PW.pt (Z3y (Z2f (Z1l (Z0k c_is_whole hr rfl (Z0a (Z0n Z0l (pv 0) Z0b (fun _ _=>rfl)) Z0d)))) (Z3y (Z0o Z6u (Z0n Z0l (pv 0) Z0b (fun _ _=>rfl)) Z0b (nomark _)) (Z3w (Z0o Z9w (Z0n Z0l (pv 0) Z0b (fun _ _=>rfl)) Z0b (nomark _))))))
   (@Z0g _ _ _ (Z0j Z2w))
   Z0p)
  (@Z0g _ _ _ (Z0j (Z5c (Z0k c_is_word hr rfl (Z0a (Z0n Z0l (pv 0) Z0b (fun _ _=>rfl)) (Z0a (pv 1) Z0d))) (Z3x (Z0k c_is_word hr rfl (Z0a (Z0n Z0l (pv 0) Z0b (fun _ _=>rfl)) (Z0a (pv 1) Z0d))))))))),?_⟩
 try dsimp only[cxK]
 refine⟨_,rfl,_,_,_,true,rfl,TyOf.tup hp,Y3r K,_,rfl,iteF ⟨_,rfl,p,_,rfl,.inr SP,rfl,_,rfl,neI (fun z=>absurd rfl z) (fun _=>?_)⟩⟩
 refine⟨_,rfl,p,_,_,_,rfl,rfl,SP,rfl,_,rfl,_,rfl,iteF ⟨_,rfl,p,_,_,_,rfl,rfl,SP,rfl,_,_,rfl,rfl,_,rfl,decI (fun z=>absurd z (by omega)) (fun _=>⟨_,rfl,p,_,_,_,rfl,rfl,SP,rfl,_,_,rfl,rfl,_,rfl,decI (fun z=>absurd z (by omega)) (fun _=>?_)⟩)⟩⟩
 exact⟨_,rfl,p,_,_,_,rfl,rfl,SP,rfl,_,rfl,m.2.1,N,rfl,ok.f,_,rfl,iteT ⟨_,rfl,p,_,_,_,rfl,rfl,SP,rfl,_,rfl,m.2.2,N,rfl,ok.s,q⟩⟩
theorem sc_iseven:FnScope ["mark"] ["mark"] (Z0i (top 19)):=fS
theorem Y7a (F:FunAt K "is_even" (top 19) .none)(X:K.In h)(G:h.Ns mainGlobals mg)(c_ones:Cal P w K mg base k "ones" ["number"] spOnes):Cal P w K mg base (k+1) "is_even" ["mark"] (spEven K):=by
 have nd:=sc_iseven.nd
 refine F.cal X G sc_iseven (bnd1 fun _ _ _ _ _ _ _=>rfl) (fun vs H Q E' h=>?_) (fun f cdv A outer s H vs Q E' hr h=>?_)
 ·obtain⟨p,m,rfl,_⟩:=h;rfl
 obtain⟨p,m,rfl,SP,e,q⟩:=h
 refine⟨_,(@Z0g _ _ _ (Z0j (Z1n Z1u (Z0h Z0u (Z0h Z1c (Z0n Z0l (pv 0) Z0b (fun _ _=>rfl)) (Z0k c_ones hr rfl (Z0a (Z0h Z1t (Z0n Z0l (pv 0) Z0b (fun _ _=>rfl)) (Z0n Z0l (pv 0) Z0b (fun _ _=>rfl))) Z0d))) Z0b) Z0b (nomark _)))),?_⟩
 try dsimp only[cxK]
 refine⟨_,rfl,p,_,_,_,rfl,rfl,SP,rfl,_,rfl,p,_,_,_,rfl,rfl,SP,rfl,_,rfl,p,_,_,_,rfl,rfl,SP,rfl,_,_,rfl,rfl,m.2.1&&&m.2.2,Z3z _ _,_,_,rfl,rfl,_,_,rfl,rfl,Z2p,rfl,?_⟩
 show Q (.bl (decide (V.int (((m.1:Int)+((pc (m.2.1&&&m.2.2):Nat):Int))%2)=V.int 0))) H
 unfold ev at e
 rw[decide_eq_true (by congr 1;omega)]
 exact q
theorem sc_isevm:FnScope ["thing","cells"] ["thing","cells"] (Z0i (top 20)):=fS
theorem X0o (F:FunAt K "is_even_mark" (top 20) .none)(X:K.In h)(G:h.Ns mainGlobals mg)(c_is_mark:Cal P w K mg base k "is_mark" ["thing","cells"] spMark)(c_is_even:Cal P w K mg base k "is_even" ["mark"] (spEven K)):Cal P w K mg base (k+1) "is_even_mark" ["thing","cells"] spEvM:=by
 have nd:=sc_isevm.nd
 refine F.cal X G sc_isevm (bnd2 fun _ _ _ _ _ _ _ _=>rfl) (fun vs H Q E' h=>?_) (fun f cdv A outer s H vs Q E' hr h=>?_)
 ·obtain⟨p,m,N,rfl,_⟩:=h;rfl
 obtain⟨p,m,N,rfl,hp,ok,e,q⟩:=h
 refine⟨_,(@Z0g _ _ _ (Z0j (Z5c (Z0k c_is_mark hr rfl (Z0a (pv 0) (Z0a (pv 1) Z0d))) (Z3x (Z0k c_is_even hr rfl (Z0a (pv 0) Z0d)))))),?_⟩
 try dsimp only[cxK]
 exact⟨_,rfl,_,rfl,p,m,N,rfl,hp,ok,_,rfl,iteT ⟨_,rfl,p,m,rfl,SqT.of hp,e,q⟩⟩
theorem sc_pcommute:FnScope ["one","other"] ["one","other"] (Z0i (top 21)):=fS
theorem Y1j (F:FunAt K "commute" (top 21) .none)(X:K.In h)(G:h.Ns mainGlobals mg)(c_ones:Cal P w K mg base k "ones" ["number"] spOnes):Cal P w K mg base (k+1) "commute" ["one","other"] (Z9l K):=by
 have nd:=sc_pcommute.nd
 refine F.cal X G sc_pcommute (bnd2 fun _ _ _ _ _ _ _ _=>rfl) (fun vs H Q E h=>?_) (fun f cdv A outer s H vs Q E hr h=>?_)
 ·obtain⟨p,p',m,m',rfl,_⟩:=h;rfl
 obtain⟨p,p',m,m',rfl,S1,S2,q⟩:=h
 refine⟨_,(@Z0g _ _ _ (Z0j (Z1n Z1u (Z0h Z0u (Z0h Z1c (Z0k c_ones hr rfl (Z0a (Z0h Z1t (Z0n Z0l (pv 0) Z0b (fun _ _=>rfl)) (Z0n Z0l (pv 1) Z0b (fun _ _=>rfl))) Z0d)) (Z0k c_ones hr rfl (Z0a (Z0h Z1t (Z0n Z0l (pv 0) Z0b (fun _ _=>rfl)) (Z0n Z0l (pv 1) Z0b (fun _ _=>rfl))) Z0d))) Z0b) Z0b (nomark _)))),?_⟩
 try dsimp only[cxK]
 refine⟨_,rfl,p,_,_,_,rfl,rfl,S1,rfl,_,rfl,p',_,_,_,rfl,rfl,S2,rfl,_,_,rfl,rfl,m.2.1&&&m'.2.2,Z3z _ _,_,rfl,p,_,_,_,rfl,rfl,S1,rfl,_,rfl,p',_,_,_,rfl,rfl,S2,rfl,_,_,rfl,rfl,m.2.2&&&m'.2.1,Z3z _ _,_,_,rfl,rfl,_,_,rfl,rfl,Z2p,rfl,?_⟩
 have e:decide (V.int ((((pc (m.2.1&&&m'.2.2):Nat):Int)+((pc (m.2.2&&&m'.2.1):Nat):Int))%2)=V.int 0)=decide (comm m m'=0):=by
  rw[decide_eq_decide]
  unfold comm
  constructor
  ·intro z
   have:=V.int.inj z
   omega
  ·intro z
   congr 1
   omega
 show Q (.bl (decide (V.int ((((pc (m.2.1&&&m'.2.2):Nat):Int)+((pc (m.2.2&&&m'.2.1):Nat):Int))%2)=V.int 0))) H
 rw[e]
 exact q
theorem sc_comall:FnScope ["mark","rows"] ["mark","rows"] (Z0i (top 39)):=fS
theorem Y7b (F:FunAt K "commutes_with_all" (top 39) .none)(X:K.In h)(G:h.Ns mainGlobals mg)(B:Bs mg)(c_commute:Cal P w K mg base k "commute" ["one","other"] (Z9l K)):Cal P w K mg base (k+1) "commutes_with_all" ["mark","rows"] (Y2v K):=by
 have nd:=sc_comall.nd
 refine F.cal X G sc_comall (bnd2 fun _ _ _ _ _ _ _ _=>rfl) (fun vs H Q E' h=>?_) (fun f cdv A outer s H vs Q E' hr h=>?_)
 ·obtain⟨pm,l,ps,ms,m,rfl,_⟩:=h;rfl
 obtain⟨pm,l,ps,ms,m,rfl,hpm,hS,hm,l12,com,kq⟩:=h
 have lps:(ps.map V.ref).length=ms.length:=by rw[List.length_map,hm.length]
 refine⟨_,(@Z0g _ _ _ (Z0j (Z0q (Z2h rfl) rfl B.all boot_all (Z0a (Z3k rfl (LcOk.of (Nc:=["row","mark"]) (mp:=[none,some 0]) (by kernel_rfl)) (Z1d (pv 1)) (fun _ _ _ _=>(Z0m (i:=0) (show (["row","mark"]:List Str).Nodup by decide +kernel) rfl (Or.inl rfl))) (fun _ _ _ _=>(Z0k c_commute hr rfl (Z0a (pv 1) (Z0a (pv 0) Z0d))))) Z0d)))),?_⟩
 try dsimp only[cxK]
 refine⟨_,rfl,l,rfl,⟨_,hS⟩,fun acc hacc=>?_⟩
 refine Z3h (K:=K) (a:=l) (xs:=ps.map V.ref) (fr:=[some (.ref pm)]) (fun i ys H'=>Same H H'/\H' acc=some (.lst ys)/\ys=(List.replicate i true).map V.bl) (by rw[lps];exact s64 (by omega)) ⟨Z0f hacc _,Z0c,rfl⟩ (fun i ys H' e=>e.1.seq hS) ?_ ?_
 ·rintro i x ys HA NN hx hl ⟨SA,cA,rfl⟩ kN
  rw[List.getElem?_map] at hx
  obtain⟨p,hp,rfl⟩:=Option.map_eq_some_iff.mp hx
  obtain⟨r,hri,p0⟩:=hm.get hp
  refine⟨_,rfl,_,rfl,pm,p,m,r,rfl,SqT.of (SA _ _ hpm),SqT.of (SA _ _ p0),?_⟩
  rw[decide_eq_true (com r (List.mem_of_getElem? hri))]
  refine kN _ _ cA ⟨Z0s SA hacc,Z0c,?_⟩
  rw[List.replicate_succ',List.map_append]
  rfl
 rintro ys HB hlB ⟨SB',cB,rfl⟩
 refine⟨acc,_,rfl,SqL.of cB,?_⟩
 rw[Z4m]
 exact kq HB SB'
theorem Y9j {X:Cx}{scope:Scope}{Nc:List Str}{ex:List Addr}{pins:List (Addr × Obj)}{s:Shared}{H:Hp}:SlR (cxLc X scope Nc ex pins s H) (rSlL X.K):=Z8h
theorem X0y {K:PySem.W.Frag}{l:Addr}{g:TG}{xs:List V}{te:TE}{fr:L2.St}{H1:Hp}{acc:Addr}{Q:VK}(f:Nat->V->V)(hn:xs.length<=sizeLine)(hacc:H1 acc=none)(hl:SqL K H1 l xs)
  (hg:∀ {a:Addr}{x y:V}{w1 w2:Option V}{H:Hp}{Q:L2.St->Hp->Prop},H a=some (.tup [x,y])->Q (some x::some y::fr) H->g (.ref a) (w1::w2::fr) H Q)
  (hs:∀ i x H (N:V->Hp->Prop),xs[i]?=some x->Same H1 H->(∀ H',Same H H'->N (f i x) H')->te (some (.int i)::some x::fr) H N)
  (hd:∀ H2,Same H1 H2->H2 acc=some (.lst (xs.mapIdx f))->Q (.ref acc) H2):LcW (Ite K l) g te (none::none::fr) H1 acc Q:=by
 refine⟨fun i m zs σ2 H2=>m=xs.length-i/\i<=xs.length/\(∃ v w,σ2=v::w::fr)/\Same H1 H2/\H2 acc=some (.lst zs)/\zs=(xs.take i).mapIdx f,⟨xs.length,by simp,Nat.zero_le _,⟨_,_,rfl⟩,Z0f hacc _,Z0c,by simp⟩,?_⟩
 rintro i m zs σ2 H2 ⟨rfl,hi,⟨v,w,rfl⟩,s2,a2,e2⟩
 by_cases hlt:i<xs.length
 ·have e1:xs[i]?=some xs[i]:=by simp[hlt]
  refine .inr ⟨⟨xs,_,s2.seq hl,e1⟩,fun u H3 y3=>?_⟩
  obtain⟨T,x,rfl,hT,rfl,h1⟩:=y3
  have hx:=h1 xs (s2.seq hl)
  have sT:=Z0f hT (.tup [.int i,x])
  have zl:zs.length=i:=by rw[e2,List.length_mapIdx,List.length_take];omega
  refine hg (x:=.int i) (y:=x) Z0c (hs i x _ _ hx (s2.trans sT) fun H' s'=>⟨s' _ _ (sT _ _ a2),by omega,xs.length-(i+1),by omega,rfl,hlt,⟨_,_,rfl⟩,Z0s ((s2.trans sT).trans s') hacc,Z0c,?_⟩)
  rw[List.take_add_one,hx,Option.toList_some,List.mapIdx_append,e2]
  have:(xs.take i).length=i:=by rw[List.length_take];omega
  simp[this]
 ·have e:i=xs.length:=by omega
  subst e
  exact .inl ⟨⟨xs,s2.seq hl,Nat.le_refl _⟩,hd H2 s2 (by rw[a2,e2,List.take_length])⟩
theorem X8a {xs:List V}{i:Nat}(h:i<=xs.length):cutV xs none (some (i:Int))=xs.take i:=by
 unfold cutV
 have e1:HT.sIx xs.length 0 none=0:=rfl
 have e2:HT.sIx xs.length xs.length (some (i:Int))=i:=by rw[HT.Y6c];exact Nat.min_eq_left h
 rw[e1,e2]
 rfl
theorem Mks.take {H:Hp}:∀ {ps:List Addr}{ms:List Mk} (i:Nat),Mks H ps ms->Mks H (ps.take i) (ms.take i)
 | [],[],_,.nil=>by rw[List.take_nil,List.take_nil];exact .nil
 | _::_,_::_,0,_=>.nil
 | _::_,_::_,i+1,.cons a r=>.cons a (Mks.take i r)
theorem Y0w {ms:List Mk}{x i:Nat}(hi:i<=ms.length):chosen (ms.take i) x i=chosen ms x i:=by
 unfold chosen
 refine List.map_congr_left fun p hp=>?_
 have:=Z4e hp
 rw[List.getD_eq_getElem?_getD,List.getD_eq_getElem?_getD,List.getElem?_take,if_pos this]
theorem X0u {ms:List Mk}(I:Indep ms){i kk x:Nat}(hi:i<ms.length)(q:(ms.getD i (0,0,0)).1<4)(k4:kk<4)(h:(chosen (ms.take i) x (ms.take i).length).foldl mul (kk,0,0)=ms.getD i (0,0,0)):False:=by
 have lt:(ms.take i).length=i:=by rw[List.length_take];omega
 rw[lt,Y0w (by omega),Z5l k4] at h
 have hx:=Nat.mod_lt x (Nat.two_pow_pos i)
 have eE:E ms (x%2^i)=prod (chosen ms x i):=by
  unfold E
  obtain⟨d,hd⟩:∃ d,ms.length=i+d:=⟨ms.length-i,by omega⟩
  rw[hd,Z2i ms hx d,Z2s]
 have e1:=X8j ms hi q
 have p2:2^i<2^ms.length:=Nat.pow_lt_pow_right (by decide) hi
 have:=X1u I (Nat.lt_trans hx p2) p2 (by rw[eE,e1,<-h])
 omega
structure Tb3 (N:Nat) (H:Hp) (l:Addr) (ps:List Addr) (ms:List Mk):Prop where
 lst:H l=some (.lst (ps.map V.ref))
 mks:Mks H ps ms
 ok:∀ m∈ms,Okm N m
 tb:M53.Tb ms
 len:ms.length<=12
def Z9j:Sp:=fun vs H Q _=>∃ (l:Addr) (ps:List Addr) (ms:List Mk) (N:Nat),vs=[.ref l,.int N]/\Tb3 N H l ps ms/\1<=N/\N<=6/\∀ H',Same H H'->Q (.bl true) H'
theorem am:¬ (V.str "apart"=V.str "made"):=fun e=>absurd (V.str.inj e) (by decide +kernel)
theorem sc_istable:FnScope ["rows","cells"] ["rows","cells"] (Z0i (top 38)):=fS
theorem Y4t (F:FunAt K "is_table" (top 38) .none)(X:K.In h)(G:h.Ns mainGlobals mg)(B:Bs mg)(c_is_whole:Cal P w K mg base k "is_whole" ["thing"] Z3d)(c_is_even_mark:Cal P w K mg base k "is_even_mark" ["thing","cells"] spEvM)
  (c_commutes_with_all:Cal P w K mg base k "commutes_with_all" ["mark","rows"] (Y2v K)) (c_made_of:Cal P w K mg base k "made_of" ["rows","mark","cells"] (Z8f K)):Cal P w K mg base (k+1) "is_table" ["rows","cells"] Z9j:=by
 have nd:=sc_istable.nd
 refine F.cal X G sc_istable (bnd2 fun _ _ _ _ _ _ _ _=>rfl) (fun vs H Q E' h=>?_) (fun f cdv A outer s H vs Q E' hr h=>?_)
 ·obtain⟨l,ps,ms,N,rfl,_⟩:=h;rfl
 obtain⟨l,ps,ms,N,rfl,T,N1,N6,kq⟩:=h
 have hS:SqL K H l (ps.map V.ref):=SqL.of T.lst
 have lps:(ps.map V.ref).length=ms.length:=by rw[List.length_map,T.mks.length]
 have l6:=T.len
 refine⟨_,(@Z0e _ _ _ _ _ (Z0y (PW.pt (Z3y (Z2f (Z1l (Z0q Z1f rfl B.isinstance boot_isinstance (Z0a (pv 0) (Z0a (Z2x (v:=.ty "list") rfl B.list boot_list rfl) Z0d))))) (Z3y (Z2f (Z1l (Z0k c_is_whole hr rfl (Z0a (pv 1) Z0d)))) (Z3w (Z0o Z6u (pv 1) Z0b (nomark _))))))
   (@Z0g _ _ _ (Z0j Z2w))
   Z0p)
  (@Z0e _ _ _ _ _ (Z0y (Z2f (Z1l (Z0q (Z2h rfl) rfl B.all boot_all (Z0a (Z3k rfl (LcOk.of (Nc:=["row","cells"]) (mp:=[none,some 1]) (by kernel_rfl)) (Z1d (pv 0)) (fun _ _ _ _=>(Z0m (i:=0) (show (["row","cells"]:List Str).Nodup by decide +kernel) rfl (Or.inl rfl))) (fun _ _ _ _=>(Z0k c_is_even_mark hr rfl (Z0a (pv 0) (Z0a (pv 1) Z0d))))) Z0d))))
   (@Z0g _ _ _ (Z0j Z2w))
   Z0p)
  (@Z0e _ _ _ _ _ (Z0y (Z2f (Z1l (Z0q (Z2h rfl) rfl B.all boot_all (Z0a (Z3k rfl (LcOk.of (Nc:=["row","rows"]) (mp:=[none,some 0]) (by kernel_rfl)) (Z1d (pv 0)) (fun _ _ _ _=>(Z0m (i:=0) (show (["row","rows"]:List Str).Nodup by decide +kernel) rfl (Or.inl rfl))) (fun _ _ _ _=>(Z0k c_commutes_with_all hr rfl (Z0a (pv 0) (Z0a (pv 1) Z0d))))) Z0d))))
   (@Z0g _ _ _ (Z0j Z2w))
   Z0p)
  (@Z0g _ _ _ (Z0j (Y3e (Z0q (Y0j rfl) rfl B.any boot_any (Z0a (Z3k rfl (LcOk.of (Nc:=["place","row","rows","cells"]) (mp:=[none,none,some 0,some 1]) (by kernel_rfl)) (Z5m rfl B.enumerate (Z0a (pv 0) Z0d)) (fun _ _ _ _=>(Z6b rfl (show (["place","row","rows","cells"]:List Str).Nodup by decide +kernel) rfl rfl rfl rfl)) (fun _ _ _ _=>(Z1n Z1u (Z0n Z4u (Z0k c_made_of hr rfl (Z0a (Z2k Y9j (pv 2) Z4d (Z2j (pv 0))) (Z0a (pv 1) (Z0a (pv 3) Z0d)))) Z0b (fun _ _=>rfl)) Z2b (nomark _)))) Z0d)))))))),?_⟩
 try dsimp only[cxK]
 refine⟨_,rfl,_,_,_,true,rfl,TyOf.lst T.lst,X2o K,_,rfl,iteF ⟨_,rfl,_,rfl,_,rfl,iteF ⟨_,rfl,_,_,rfl,rfl,_,rfl,decI (fun z=>absurd z (by omega)) (fun _=>?_)⟩⟩⟩
 refine⟨_,rfl,l,rfl,⟨_,hS⟩,fun acc hacc=>?_⟩
 refine Z3h (K:=K) (a:=l) (xs:=ps.map V.ref) (fr:=[some (.int N)]) (fun i ys H'=>Same H H'/\H' acc=some (.lst ys)/\ys=(List.replicate i true).map V.bl) (by rw[lps];exact s64 (by omega)) ⟨Z0f hacc _,Z0c,rfl⟩ (fun i ys H' e=>e.1.seq hS) ?_ ?_
 ·rintro i x ys HA NN hx hl ⟨SA,cA,rfl⟩ kN
  rw[List.getElem?_map] at hx
  obtain⟨p,hp,rfl⟩:=Option.map_eq_some_iff.mp hx
  obtain⟨r,hri,p0⟩:=T.mks.get hp
  have mem:=List.mem_of_getElem? hri
  refine⟨_,rfl,_,rfl,p,r,N,rfl,SA _ _ p0,T.ok r mem,T.tb.nice.even r mem,?_⟩
  refine kN _ _ cA ⟨Z0s SA hacc,Z0c,?_⟩
  rw[List.replicate_succ',List.map_append]
  rfl
 rintro ys H1 hl1 ⟨S1,c1,rfl⟩
 refine⟨acc,_,rfl,SqL.of c1,_,rfl,nblI (fun z=>absurd z (by rw[Z4m];decide)) (fun _=>?_)⟩
 refine⟨_,rfl,l,rfl,⟨_,S1.seq hS⟩,fun acc2 hacc2=>?_⟩
 refine Z3h (K:=K) (a:=l) (xs:=ps.map V.ref) (fr:=[some (.ref l)]) (fun i ys H'=>Same H1 H'/\H' acc2=some (.lst ys)/\ys=(List.replicate i true).map V.bl) (by rw[lps];exact s64 (by omega)) ⟨Z0f hacc2 _,Z0c,rfl⟩ (fun i ys H' e=>(S1.trans e.1).seq hS) ?_ ?_
 ·rintro i x ys HA NN hx hl ⟨SA,cA,rfl⟩ kN
  rw[List.getElem?_map] at hx
  obtain⟨p,hp,rfl⟩:=Option.map_eq_some_iff.mp hx
  obtain⟨r,hri,p0⟩:=T.mks.get hp
  have mem:=List.mem_of_getElem? hri
  have SS:=S1.trans SA
  refine⟨_,rfl,_,rfl,p,l,ps,ms,r,rfl,SS _ _ p0,SS.seq hS,T.mks.same SS,by omega,T.tb.nice.com r mem,fun HB SB=>?_⟩
  refine kN _ _ (SB _ _ cA) ⟨Z0s (SA.trans SB) hacc2,Z0c,?_⟩
  rw[List.replicate_succ',List.map_append]
  rfl
 rintro ys H2 hl2 ⟨S2,c2,rfl⟩
 have S02:=S1.trans S2
 refine⟨acc2,_,rfl,SqL.of c2,_,rfl,nblI (fun z=>absurd z (by rw[Z4m];decide)) (fun _=>?_)⟩
 refine⟨_,rfl,l,_,rfl,S02.seq hS,fun acc3 hacc3=>?_⟩
 refine X0y (l:=l) (xs:=ps.map V.ref) (fr:=[some (.ref l),some (.int N)]) (fun _ _=>.bl false) (by rw[lps];exact s64 (by omega)) hacc3 (S02.seq hS) (fun h q=>⟨_,_,rfl,SqT.of h,rfl,_,_,rfl,_,_,rfl,rfl,q⟩) ?_ ?_
 ·intro i x H3 NN hx S3 kN
  have ilt:i<(ps.map V.ref).length:=(List.getElem?_eq_some_iff.mp hx).1
  rw[List.getElem?_map] at hx
  obtain⟨p,hp,rfl⟩:=Option.map_eq_some_iff.mp hx
  obtain⟨r,hri,p0⟩:=T.mks.get hp
  have mem:=List.mem_of_getElem? hri
  have eg:ms.getD i (0,0,0)=r:=by rw[List.getD_eq_getElem?_getD,hri];rfl
  have SS:=S02.trans S3
  refine⟨_,rfl,_,rfl,_,rfl,l,_,rfl,SS.seq hS,fun cp hcp=>?_⟩
  rw[X8a (by omega),<-List.map_take]
  have s4:=Z0f hcp (.lst ((ps.take i).map V.ref))
  refine⟨_,rfl,_,rfl,cp,p,ps.take i,ms.take i,r,N,rfl,SqL.of Z0c,((T.mks.same SS).same s4).take i,s4 _ _ (SS _ _ p0),N6,by rw[List.length_take];omega,fun m hm=>T.ok m (List.mem_of_mem_take hm),T.ok r mem,fun rt H5 S5 told=>?_⟩
  rcases told with ⟨k1,y,ln,_,hrt,_,k4,hf⟩ | ⟨pp,o,hrt,_⟩
  ·rw[<-eg] at hf
   exact(X0u T.tb.ind (by omega) (by rw[eg];exact T.tb.nice.q r mem) k4 hf).elim
  ·refine⟨rt,_,_,_,rfl,rfl,SqT.of hrt,rfl,rfl,?_⟩
   rw[decide_eq_false am]
   exact kN H5 (s4.trans S5)
 ·intro H3 S3 a3
  have e:((ps.map V.ref).mapIdx fun _ _=>V.bl false)=(List.replicate (ps.map V.ref).length false).map V.bl:=by
   apply List.ext_getElem
   ·simp
   ·intro i h1 h2;simp
  rw[e] at a3
  refine⟨acc3,_,rfl,SqL.of a3,_,rfl,?_⟩
  rw[show (List.replicate (ps.map V.ref).length false).any id=false by simp]
  exact kq H3 (S02.trans S3)
end
end K62T
namespace L2
open PySem PySem.Spec PyProof.Rows
theorem Y3d {α β:Type}{f:α->β}:∀ {l m:List β},l.Perm m->∀ {r:List α},m=r.map f->∃ r':List α,r'.Perm r/\l=r'.map f:=by
 intro l m h
 induction h with
 | nil =>
  intro r e
  cases r with
  | nil=>exact⟨[],.nil,rfl⟩
  | cons=>cases e
 | cons x h ih =>
  intro r e
  cases r with
  | nil=>cases e
  | cons y r =>
   rw[List.map_cons] at e
   injection e with e1 e2
   obtain⟨r',p,e'⟩:=ih e2
   exact⟨y::r',p.cons y,by rw[List.map_cons,e1,e']⟩
 | swap x y l =>
  intro r e
  cases r with
  | nil=>cases e
  | cons a r =>
   cases r with
   | nil=>cases e
   | cons b r =>
    rw[List.map_cons,List.map_cons] at e
    injection e with e1 e2
    injection e2 with e2 e3
    exact⟨b::a::r,.swap _ _ _,by rw[List.map_cons,List.map_cons,e1,e2,e3]⟩
 | trans h1 h2 ih1 ih2 =>
  intro r e
  obtain⟨r2,p2,e2⟩:=ih2 e
  obtain⟨r1,p1,e1⟩:=ih1 e2
  exact⟨r1,p1.trans p2,e1⟩
theorem Z7z:∀ {xs:List V}{us:List Value},Vals xs us->∀ p∈xs.zip us,RelV p.1 p.2
 | _,_,.nil,_,h=>nomatch h
 | _,_,.cons r rs,p,h=>by
  rw[List.zip_cons_cons] at h
  rcases List.mem_cons.mp h with rfl | h
  ·exact r
  ·exact Z7z rs p h
theorem Z6h:∀ {l:List (V × Value)},(∀ p∈l,RelV p.1 p.2)->Vals (l.map (·.1)) (l.map (·.2))
 | [],_=>.nil
 | p::l,h=>.cons (h p (.head _)) (Z6h fun q hq=>h q (.tail _ hq))
theorem zip3 {kz:List Int}:∀ {xs:List V}{us:List Value},xs.length=us.length →
  kz.zip us=(kz.zip (xs.zip us)).map (fun t=>(t.1,t.2.2))/\kz.zip xs=(kz.zip (xs.zip us)).map (fun t=>(t.1,t.2.1)):=by
 induction kz with
 | nil=>intro xs us _;exact⟨rfl,rfl⟩
 | cons k kz ih =>
  intro xs us h
  cases xs with
  | nil =>
   cases us with
   | nil=>exact⟨rfl,rfl⟩
   | cons=>cases h
  | cons x xs =>
   cases us with
   | nil=>cases h
   | cons u us =>
    obtain⟨a,b⟩:=ih (xs:=xs) (us:=us) (Nat.succ.inj h)
    simp only[List.zip_cons_cons,List.map_cons]
    exact⟨by rw[<-a],by rw[<-b]⟩
theorem Y9x {kz:List Int}{xs:List V}{us out:List Value}(r:Vals xs us)(h:KskOut false kz us out) :
  ∃ ps:List (Int × V),ps.Perm (kz.zip xs)/\Vals (ps.map (·.2)) out/\ps.Pairwise fun p q=>p.1<=q.1:=by
 obtain⟨ps,hp,ho,hs⟩:=h
 obtain⟨e1,e2⟩:=zip3 (kz:=kz) r.length
 obtain⟨l,pl,el⟩:=Y3d hp e1
 refine⟨l.map fun t=>(t.1,t.2.1),?_,?_,?_⟩
 ·rw[e2]
  exact pl.map _
 ·have hr:∀ p∈l.map (·.2),RelV p.1 p.2:=fun p hp=>by
   obtain⟨t,ht,rfl⟩:=List.mem_map.mp hp
   have:=pl.mem_iff.mp ht
   exact Z7z r _ (List.of_mem_zip (a:=t.1) (b:=t.2) this).2
  have hv:=Z6h hr
  rw[ho,el]
  simp only[List.map_map] at hv ⊢
  exact hv
 ·rw[el] at hs
  rw[List.pairwise_map] at hs ⊢
  exact hs
theorem X6o {prog:Program}{w:World}{A:Around}{E:Value->Shared->Prop}{s:Shared}{D kS:Addr}{us:List Value}{kz:List Int}{keys:Array Value}{e e1:Nat}{P:PySem.Fin->Shared->Prop}
  (nk:s.heap.get? kS=some (seqObj "list" keys e)) (nd:s.heap.get? D=some (seqObj "list" #[] e1)) (hkd:kS≠D) (hk:IntsAre keys.toList kz) (hl:kz.length=us.length) (h64:us.length<64)
  (h:∀ (h1 h2:Heap) (out:Array Value) (c:Nat),(∀ b,b≠kS->h1.get? b=s.heap.get? b)->(∀ b,b≠D->h2.get? b=h1.get? b)->h2.get? D=some (seqObj "list" out c)->KskOut false kz us out.toList->P (.done (.ret .none)) { s with heap:=h2 }) :
  wpAny (model prog w) A (ksk_end D false us.toArray e1 (.ref kS) keys) P E s:=by
 have hn:keys.size=us.length:=by
  have:=hk.length
  rw[Array.length_toList] at this
  exact this.trans hl
 have hzn:(keys.zip us.toArray).size=us.length:=by rw[Array.size_zip,hn,List.size_toArray,Nat.min_self]
 have l64:(64:Nat)<=sizeLine:=by decide
 have tail:∀ st:SortSt,(arrOf st).Perm (keys.zip us.toArray)->SortedTo (arrOf st) (arrOf st).size->failedOf st=none->wpAny (model prog w) A (ksk_tail D false e1 (.ref kS) st) P E s:=by
  intro st hp hs hf
  have hz:((arrOf st).map (·.2)).size=us.length:=by rw[Array.size_map,hp.size_eq,hzn]
  obtain⟨_,q1⟩:=Heap.SameBut.update s.heap kS (Obj.mapSeq fun _=>(#[]:Array Value))
  have nd1:=(q1 D hkd.symm).trans nd
  obtain⟨_,q2⟩:=Heap.SameBut.update (s.heap.update kS (Obj.mapSeq fun _=>(#[]:Array Value))) D (Obj.mapSeq fun _=>(arrOf st).map (·.2))
  have nd2:=get?_update_seq nd1 fun _=>(arrOf st).map (·.2)
  unfold ksk_tail
  simp only[Bool.false_eq_true,if_false]
  refine wpAny_bind (listUpdate_at nk rfl ?_ (by rw[hn];omega) (Nat.zero_le _))
  refine wpAny_bind (wpAny_letGo (wpAny_bind (seqEpoch_at nd1 rfl ?_)))
  refine wpAny_bind (listUpdate_at nd1 rfl ?_ (Nat.zero_le _) (by omega))
  rw[hf]
  simp only[bne_self_eq_false,Bool.false_eq_true,if_false]
  exact wpAny_pure (h _ _ _ _ q1 q2 nd2 (ksk_out (b:=false) hk hp hs))
 unfold ksk_end
 dsimp only
 rw[if_neg Bool.false_ne_true]
 by_cases h2:us.toArray.size<2
 ·rw[if_pos h2,if_pos h2]
  refine wpAny_bind (wpAny_pure ?_)
  rw[StateT.run_pure]
  refine wpAny_bind (wpAny_pure (tail _ (Array.Perm.refl _) (fun i j hij hj=>?_) rfl))
  have hj':j<(keys.zip us.toArray).size:=hj
  rw[List.size_toArray] at h2
  have:i=j:=by omega
  rw[this]
  exact Int.le_refl _
 ·rw[if_neg h2,if_neg h2,ksk_kind hk (by rw[hn];rw[List.size_toArray] at h2;omega)]
  rw[List.size_toArray] at h2
  refine wpAny_bind (wpAny_pure (wpAny_bind (wpAny_mono (wpS_sortRuns (a₀:=keys.zip us.toArray)
   (Q:=fun _ t=>(arrOf t).Perm (keys.zip us.toArray)/\failedOf t=none/\SortedTo (arrOf t) (keys.zip us.toArray).size) (ksk_intKeys hk) ⟨Array.Perm.refl _,rfl,rfl,rfl⟩ (by rw[hzn];omega) (by rw[hzn];omega) fun t a b c=>⟨a,b,c⟩) ?_ fun _ _ z=>z)))
  rintro ⟨⟨⟩,t⟩ s' ⟨rfl,hp,hf,hs⟩
  exact tail t hp (by rw[hp.size_eq];exact hs) hf
def Cx.low (X:Cx):Cx:={ X with A:=X.A.in1.in1,xe:=Calm }
theorem Cx.Ok.low {X:Cx}(o:X.Ok):X.low.Ok:=⟨o.1,o.2,o.3,o.4,o.5,o.6,o.7,o.8,o.9,o.10,o.11,o.12,o.13,o.14,o.15,o.16,o.17,o.18⟩
section
variable {X:Cx}{pins:List (Addr × Obj)}{σ:St}{H:Hp}{s:Shared}
theorem Inv.low (I:Inv X pins σ H s):Inv X.low pins σ H s:=⟨I.ok.low,I.2,I.3,I.4,I.5,I.6,I.7,I.8,I.9,I.10,I.11⟩
theorem Inv.high (I:Inv X.low pins σ H s)(o:X.Ok):Inv X pins σ H s:=⟨o,I.2,I.3,I.4,I.5,I.6,I.7,I.8,I.9,I.10,I.11⟩
theorem Inv.track {D:Addr}{ys:List V}{us:List Value}{n:Nat}(I:Inv X pins σ H s)(f:FpOk X pins H D)(hz:ys.length<=sizeLine)(r:Vals ys us)(e:s.heap.get? D=some (seqObj "list" us.toArray n)) :
  Inv X pins σ (upd H D (.lst ys)) s:=by
 have far:∀ b u,H b=some u->b≠D:=fun b u q z=>by rw[z,f.1] at q;cases q
 refine I.step (h':=s.heap) (g':=s.gens) (d':=s.drawn) (t':=s.toks) (ch:=[D]) (fun b hb=>?_) (fun b o _ _ _ q _=>q) (fun b o _ _ _ q _=>⟨o.slots,q⟩) (fun b o hc _ q=>?_) (fun b o _ q=>⟨o,q⟩)
  (fun b xs q=>?_) (fun b o u q=>?_) (fun b ps q=>⟨#[],?_⟩) (fun m hm=>hm) (fun b u q=>?_) I.bare
 ·cases List.mem_singleton.mp hb
  exact⟨f.2.2.2.1,f.2.1,f.2.2.2.2.1,f.2.2.2.2.2⟩
 ·rw[Z0x fun z=>hc (List.mem_singleton.mpr z)];exact q
 ·rw[Z0x (far _ _ q)];exact q
 ·rw[Z0x (far _ _ q)];exact q
 ·rw[Z0x (far _ _ q),q];simp
 ·by_cases hb:b=D
  ·subst hb
   rw[Z0c] at q
   cases q
   exact⟨hz,us,n,r,e⟩
  ·rw[Z0x hb] at q
   exact(I.hok b u q).stay (fun _ _ _ q=>q) (fun c q=>by rw[Z0x (far _ _ q)];exact q) fun c xs q=>by rw[Z0x (far _ _ q)];exact q
end
theorem Y0h {X:Cx}{k:Nat}{f:Addr}{fd:FuncData}{p0:Str}{sp:Sp}(F:FnOk X.prog X.w X.K X.mg X.base CX0 k f fd [p0] sp)(hb:Binds X.K fd [p0] [])(hr:Room (k+2) X.A)
  {pins:List (Addr × Obj)}{s:Shared}{σ:St}{H:Hp}{l:Addr}{xs:List V}{kz:List Int}{Q:VK} (I:Inv X pins σ H s) (hl:H l=some (.lst xs)) (hkz:kz.length=xs.length) (h64:xs.length<64)
  (turn:∀ (i:Nat) x z,xs[i]?=some x->kz[i]?=some z->sp [x] H (fun v H'=>v=.int z/\H'=H) E0)
  (q:∀ (D:Addr) (ps:List (Int × V)),H D=none->ps.Perm (kz.zip xs)->ps.Pairwise (fun a b=>a.1<=b.1)->Q (.ref D) (upd H D (.lst (ps.map (·.2))))) :
  wpAny (model X.prog X.w) X.A (call (.builtin "sorted") [.ref l] [(Str.ofString "key",.ref f)]) (EP X pins σ Q) X.xe s:=by
 obtain⟨_,its,n,rv,el,ho⟩:=I.lstM hl
 have hlen:its.length<64:=by omega
 have l64:(64:Nat)<=sizeLine:=by decide
 have hzi:kz.length=its.length:=hkz.trans el
 refine call_function_entry_kw kind_sorted plain_sorted entry_sorted (ksk_s1 _ _) ?_
 unfold Builtin.«sorted»
 refine wpAny_bind (m:=checkCount "sorted" 1 1 _) (wpAny_pure ?_)
 refine wpAny_bind (collect_list (vs:=its) ⟨_,ho,rfl,n,rfl⟩ ?_ (by omega))
 have k0:∀ b o,s.heap.get? b=some o->((s.heap.push (seqObj "list" #[] 0)).update s.heap.objs.size (Obj.mapSeq (·++its.toArray))).get? b=some o:=fun b o x=>by
  rw[Heap.get?_update_ne _ _ _ _ (Nat.ne_of_lt (Heap.lt_size x))]
  exact Heap.get?_push_of_some _ x
 have z0:s.heap.objs.size<=((s.heap.push (seqObj "list" #[] 0)).update s.heap.objs.size (Obj.mapSeq (·++its.toArray))).objs.size:=by
  rw[Heap.size_update,size_push']
  exact Nat.le_succ _
 revert k0 z0
 generalize (s.heap.push (seqObj "list" #[] 0)).update s.heap.objs.size (Obj.mapSeq (·++its.toArray))=g
 intro k0 z0
 refine wpAny_bind (wpAny_newList ?_ (by omega))
 have oD:(g.push (seqObj "list" its.toArray 0)).get? g.objs.size=some (seqObj "list" its.toArray 0):=Heap.get?_push_size _ rfl
 have k1:∀ b o,s.heap.get? b=some o->(g.push (seqObj "list" its.toArray 0)).get? b=some o:=fun b o x=>Heap.get?_push_of_some _ (k0 b o x)
 have z1:(g.push (seqObj "list" its.toArray 0)).objs.size=g.objs.size+1:=size_push' ..
 revert z0 oD k1 z1
 generalize g.push (seqObj "list" its.toArray 0)=g1
 generalize g.objs.size=D
 intro z0 oD k1 z1
 refine wpAny_bind (wpAny_holding (wpAny_call_entry_kw slot_list_sort ⟨_,oD,rfl⟩ entry_list_sort ?_ (ksk_l1 _ _)))
 show wpAny (model X.prog X.w) X.low.A (Builtin.«list.sort» ⟨[.ref D],[(Str.ofString "key",.ref f)]⟩) _ _ _
 rw[ksk_t1]
 unfold ksk_tree
 refine wpAny_bind (listItems_at oD rfl ?_)
 refine wpAny_bind (listUpdate_at oD rfl ?_ (by rw[List.size_toArray];omega) (Nat.zero_le _))
 obtain⟨e1,oD1⟩:∃ e1,(g1.update D (Obj.mapSeq fun _=>(#[]:Array Value))).get? D=some (seqObj "list" #[] e1):=⟨_,get?_update_seq oD fun _=>#[]⟩
 have k2:∀ b o,s.heap.get? b=some o->(g1.update D (Obj.mapSeq fun _=>(#[]:Array Value))).get? b=some o:=fun b o x=>by
  rw[Heap.get?_update_ne _ _ _ _ (Nat.ne_of_lt (Nat.lt_of_lt_of_le (Heap.lt_size x) z0))]
  exact k1 b o x
 have z2:D<(g1.update D (Obj.mapSeq fun _=>(#[]:Array Value))).objs.size:=by rw[Heap.size_update,z1];exact Nat.lt_succ_self _
 revert oD1 k2 z2
 show _->_->_->wpAny _ _ _ _ _ { s with heap:=g1.update D (Obj.mapSeq fun _=>(#[]:Array Value)) }
 generalize g1.update D (Obj.mapSeq fun _=>(#[]:Array Value))=g2
 intro oD1 k2 z2
 refine wpAny_bind (seqEpoch_at oD1 rfl ?_)
 refine wpAny_bind (wpAny_newTuple ?_ (by show its.length<=_;omega))
 have k3:∀ b o,g2.get? b=some o->(g2.push (seqObj "tuple" its.toArray 0)).get? b=some o:=fun b o x=>Heap.get?_push_of_some _ x
 have z3:(g2.push (seqObj "tuple" its.toArray 0)).objs.size=g2.objs.size+1:=size_push' ..
 revert k3 z3
 show _->_->wpAny _ _ _ _ _ { s with heap:=g2.push (seqObj "tuple" its.toArray 0) }
 generalize g2.push (seqObj "tuple" its.toArray 0)=g3
 intro k3 z3
 refine wpAny_bind (wpAny_newList ?_ (Nat.zero_le _))
 have oK:(g3.push (seqObj "list" (#[]:Array Value) 0)).get? g3.objs.size=some (seqObj "list" #[] 0):=Heap.get?_push_size _ rfl
 have k4:∀ b o,g3.get? b=some o->(g3.push (seqObj "list" (#[]:Array Value) 0)).get? b=some o:=fun b o x=>Heap.get?_push_of_some _ x
 have zK:D<g3.objs.size:=by omega
 revert oK k4 zK
 show _->_->_->wpAny _ _ _ _ _ { s with heap:=g3.push (seqObj "list" (#[]:Array Value) 0) }
 generalize g3.push (seqObj "list" (#[]:Array Value) 0)=g4
 generalize g3.objs.size=kS
 intro oK k4 zK
 have hn:∀ b,s.heap.objs.size<=b->H b=none:=fun b x=>I.hok.fresh x
 have fD:FpOk X.low pins H D:=I.fpOk z0 (hn D z0)
 have fK:FpOk X.low pins H kS:=I.fpOk (by omega) (hn kS (by omega))
 have hne:kS≠D:=Nat.ne_of_gt zK
 have pin2:∀ {s':Shared}{kA:Array Value}{e:Nat},Inv X.low pins σ H s'->s'.heap.get? kS=some (seqObj "list" kA e)->s'.heap.get? D=some (seqObj "list" #[] e1) →
   Inv X.low (pins++[(kS,seqObj "list" kA e),(D,seqObj "list" #[] e1)]) σ H s':=fun {s' kA e} J a b=>J.pins_of fun p hp=>by
  rcases List.mem_append.mp hp with hp | hp
  ·exact J.pin p (List.mem_append_right _ hp)
  ·rcases List.mem_cons.mp hp with rfl | hp
   ·exact⟨a,fK.1,fK.2.1,fK.2.2.1,fun v z=>by cases z⟩
   ·cases List.mem_singleton.mp hp
    exact⟨b,fD.1,fD.2.1,fD.2.2.1,fun v z=>by cases z⟩
 have at2:∀ {s':Shared}{kA:Array Value}{e:Nat},Inv X.low (pins++[(kS,seqObj "list" kA e),(D,seqObj "list" #[] e1)]) σ H s'->s'.heap.get? kS=some (seqObj "list" kA e)/\s'.heap.get? D=some (seqObj "list" #[] e1):=fun J =>
  ⟨(J.pin (kS,_) (List.mem_append_right _ (List.mem_append_right _ (.head _)))).1,(J.pin (D,_) (List.mem_append_right _ (List.mem_append_right _ (.tail _ (.head _))))).1⟩
 have I4:Inv X.low pins σ H { s with heap:=g4 }:=I.low.kept (t':=s.toks) fun b o x=>k4 b o (k3 b o (k2 b o x))
 have hr2:Room k X.low.A:=hr.in1.in1
 refine wpAny_holding ?_
 unfold ksk_rest
 refine wpAny_bind (wpAny_rule ?_)
 rw[List.forIn_toArray]
 refine wpAny_bind (ksk_fold (fun i s'=>∃ kA e,Inv X.low (pins++[(kS,seqObj "list" kA e),(D,seqObj "list" #[] e1)]) σ H s'/\IntsAre kA.toList (kz.take i)) its 0 _
  ⟨#[],0,pin2 I4 oK (k4 _ _ (k3 _ _ oD1)),by simpa using IntsAre.nil⟩ (fun j u s' hu J=>?_) fun s' J=>?_)
 ·obtain⟨kA,e,J,hk⟩:=J
  rw[Nat.zero_add] at hk ⊢
  have hj:j<its.length:=(List.getElem?_eq_some_iff.mp hu).1
  obtain⟨z,hz⟩:∃ z,kz[j]?=some z:=⟨_,List.getElem?_eq_getElem (by omega)⟩
  obtain⟨x,hx⟩:∃ x,xs[j]?=some x:=⟨_,List.getElem?_eq_getElem (by omega)⟩
  have rx:RelV x u:=Z7z rv (x,u) (List.mem_iff_getElem?.mpr ⟨j,by rw[List.getElem?_zip_eq_some];exact⟨hx,hu⟩⟩)
  have hA:kA.size<=its.length:=by
   have:=hk.length
   rw[Array.length_toList,List.length_take] at this
   omega
  refine wpAny_bind (wpAny_attempt (wpAny_mono (X2d (X:=X.low) (us:=[u]) (vs:=[x]) (ds:=[]) (dvs:=[]) F hr2 hb .nil pass0 J (.cons rx .nil) (turn j x z hx hz)) (fun v s2 c=>?_) fun _ _ c=>c.elim))
  obtain⟨y,H2,J2,ry,rfl,rfl⟩:=c
  obtain⟨t,rfl⟩:=ry
  obtain⟨a1,a2⟩:=at2 J2
  dsimp only
  refine wpAny_bind (listUpdate_at a1 rfl ?_ (by omega) (by rw[Array.size_push];omega))
  have J3:=J2.unpinned.turned (t':=s2.toks) (h':=s2.heap.update kS (Obj.mapSeq (·.push (.int z t)))) (it:=kS) (fun b o h x=>by rw[Heap.get?_update_ne _ _ _ _ h];exact x) fK.1 fK.2.1 fK.2.2.2.1 fK.2.2.2.2.1 fK.2.2.2.2.2
  refine wpAny_pure ⟨rfl,kA.push (.int z t),_,pin2 J3 (get?_update_seq a1 _) ((Heap.get?_update_ne _ _ _ _ hne.symm).trans a2),?_⟩
  rw[List.take_add_one,hz,Array.toList_push]
  exact ksk_snoc hk
 ·obtain⟨kA,e,J,hk⟩:=J
  rw[Nat.zero_add,<-hzi,List.take_length] at hk
  obtain⟨a1,a2⟩:=at2 J
  refine wpAny_bind (listItems_at a1 rfl ?_)
  refine X6o a1 a2 hne hk hzi hlen fun h1 h2 out c q1 q2 oD2 ko=>⟨_,rfl,wpAny_pure ⟨_,rfl,?_⟩⟩
  obtain⟨ps,pp,pv,po⟩:=Y9x rv ko
  have J1:=J.unpinned.turned (t':=s'.toks) (h':=h1) (it:=kS) (fun b o h x=>by rw[q1 b h];exact x) fK.1 fK.2.1 fK.2.2.2.1 fK.2.2.2.2.1 fK.2.2.2.2.2
  have J2:=J1.turned (t':=s'.toks) (h':=h2) (it:=D) (fun b o h x=>by rw[q2 b h];exact x) fD.1 fD.2.1 fD.2.2.2.1 fD.2.2.2.2.1 fD.2.2.2.2.2
  have hpl:(ps.map (·.2)).length<=sizeLine:=by
   have:=pp.length_eq
   rw[List.length_zip] at this
   rw[List.length_map]
   omega
  have J4:=J2.track fD hpl pv (n:=c) (by rw[Array.toArray_toList];exact oD2)
  exact⟨.ref D,_,J4.high I.ok,rfl,q D ps (hn D z0) pp po⟩
def SortK (sp:Sp)(Q:VK)(v:V)(H1:Hp):Prop:=∃ (l:Addr) (xs:List V) (kz:List Int),v=.ref l/\H1 l=some (.lst xs)/\kz.length=xs.length/\xs.length<64 ∧
 (∀ (i:Nat) x z,xs[i]?=some x->kz[i]?=some z->sp [x] H1 (fun v H'=>v=.int z/\H'=H1) E0) ∧
 ∀ (D:Addr) (ps:List (Int × V)),H1 D=none->ps.Perm (kz.zip xs)->ps.Pairwise (fun a b=>a.1<=b.1)->Q (.ref D) (upd H1 D (.lst (ps.map (·.2))))
def tSortK (sp:Sp)(te:TE):TE:=fun σ H Q=>te σ H fun v H1=>SortK sp Q v H1
theorem Y9u {X:Cx}{k:Nat}{y p0:Str}{sp:Sp}{e:Expr}{te:TE}{p p2 kp pos:Pos}(c:Cal X.prog X.w X.K X.mg X.base k y [p0] sp)(hr:Room (k+2) X.A)(hg:Gl X "sorted")(hm:X.mg "sorted"=none)(hgy:Gl X y)(he:PE X e te)
  (hdy:(y == ("__debug__":Str))=false:=by decide) (hs:starEach [e] X.env=(false,eval e X.env)::starEach [] X.env:=by rfl) :
  PE X (.Call (.Name "sorted" p) [e] [⟨some "key",.Name y p2,kp⟩] pos) (tSortK sp te):=by
 intro pins s σ H Q I h
 obtain⟨f,fd,F,b,kpf,m⟩:=c.ex
 refine wpAny_Call_Name_kw (Z6x I hg hm boot_sorted ?_ (by decide) (by decide))
 refine callWith_kw (thn (Z0a he Z0d hs pos pins s σ H (fun vs H1=>match vs with | [v]=>SortK sp Q v H1 | _=>False) I h) fun us s1 ⟨vs,H1,I1,r,q1⟩=>?_) (by rw[hs];rfl) (by rw[hs];rfl) rfl rfl
 refine thn (X3p (Z3g (v:=.ref f) hgy m rfl hdy) X6s pos pins s1 σ H1 (fun zs H2=>zs=[.ref f]/\H2=H1) I1 ⟨rfl,rfl⟩) fun ws s2 ⟨zs,H2,I2,rz,ez,eh⟩=>?_
 subst ez eh
 obtain⟨u,rfl,ru⟩:=vals1 rz
 cases ru
 match vs,r,q1 with
 | [v],r,q1 =>
  obtain⟨u,rfl,rv⟩:=vals1 r
  obtain⟨l,xs,kz,rfl,hl,e1,e2,t,q⟩:=q1
  cases rv
  exact Y0h F b hr I2 hl e1 e2 t q
end L2
namespace K62T
open PySem PySem.Spec PyProof.Rows L2 Pc K51 M54 M57
open M53 (IsLd vec V6 wl Z2a ev ldm)
theorem Z3q {X:Cx}{st:Stmt}:PS X st (fun _ _ _=>False):=fun _ _ _ _ _ _ h=>h.elim
theorem Mks.upd {H:Hp}{l:Addr}{xs ys:List V}{ps:List Addr}{ms:List Mk}(h:Mks H ps ms)(hl:H l=some (.lst xs)):Mks (upd H l (.lst ys)) ps ms :=
 Paired.imp' (fun _ _ c=>by rw[Z0x (Z5o c hl (by intro z;cases z))];exact c) h
theorem Mks.zip {H:Hp}:∀ {ps:List Addr}{ms:List Mk},Mks H ps ms->(∀ t∈ps.zip ms,H t.1=some (T3 t.2))/\(ps.zip ms).map (·.1)=ps/\(ps.zip ms).map (·.2)=ms
 | [],[],.nil=>⟨fun _ h=>(nomatch h),rfl,rfl⟩
 | p::ps,m::ms,.cons a r=>by
  obtain⟨h1,h2,h3⟩:=Mks.zip r
  rw[List.zip_cons_cons]
  refine⟨fun t ht=>?_,by rw[List.map_cons,h2],by rw[List.map_cons,h3]⟩
  rcases List.mem_cons.mp ht with rfl | ht
  ·exact a
  ·exact h1 t ht
theorem Mks.ofzip {H:Hp}:∀ {l:List (Addr × Mk)},(∀ t∈l,H t.1=some (T3 t.2))->Mks H (l.map (·.1)) (l.map (·.2))
 | [],_=>.nil
 | t::l,h=>.cons (h t (.head _)) (Mks.ofzip fun u hu=>h u (.tail _ hu))
theorem zipk:∀ {ds:List Addr}{D:List Mk}{g:Mk->Int},ds.length=D.length->(D.map g).zip (ds.map V.ref)=(ds.zip D).map fun t=>(g t.2,V.ref t.1)
 | [],[],_,_=>rfl
 | d::ds,m::D,g,h=>by
  simp only[List.map_cons,List.zip_cons_cons]
  rw[zipk (Nat.succ.inj h)]
def Z9h:Sp:=fun vs H Q _=>∃ (l:Addr) (ps:List Addr) (ms:List Mk) (N:Nat),vs=[.ref l,.int N]/\Tb3 N H l ps ms/\1<=N/\N<=6 ∧
 ∀ (r:Addr) (H':Hp) (qs:List Addr) (S:List Mk),Same H H'->H r=none->H' r=some (.lst (qs.map V.ref))->Mks H' qs S->M53.Dm ms S->S.length=ms.length->S.Pairwise (fun a b=>ldm a<=ldm b)->Q (.ref r) H'
section
variable {P:Program}{w:World}{K:PySem.W.Frag}{mg:Str->Option Value}{base:Heap}{k:Nat}{h:Heap}
def Y2w:Sp:=fun vs H Q _=>∃ (l:Addr) (ps:List Addr) (ms:List Mk) (N:Nat),vs=[.ref l,.int N]/\Tb3 N H l ps ms/\1<=N/\N<=6/\∀ H',Same H H'->Q .non H'
theorem sc_checkt:FnScope ["rows","cells"] ["rows","cells"] (Z0i (top 40)):=fS
theorem Y7c (F:FunAt K "check_table" (top 40) .none)(X:K.In h)(G:h.Ns mainGlobals mg)(c_is_table:Cal P w K mg base k "is_table" ["rows","cells"] Z9j):Cal P w K mg base (k+1) "check_table" ["rows","cells"] Y2w:=by
 have nd:=sc_checkt.nd
 refine F.cal X G sc_checkt (bnd2 fun _ _ _ _ _ _ _ _=>rfl) (fun vs H Q E' h=>?_) (fun f cdv A outer s H vs Q E' hr h=>?_)
 ·obtain⟨l,ps,ms,N,rfl,_⟩:=h;rfl
 obtain⟨l,ps,ms,N,rfl,T,N1,N6,kq⟩:=h
 refine⟨_,(@Z0g _ _ _ (Z0y (Z2f (Z1l (Z0k c_is_table hr rfl (Z0a (pv 0) (Z0a (pv 1) Z0d)))))
   (@Z0g _ _ _ Z3q)
   Z0p)),?_⟩
 try dsimp only[cxK]
 exact⟨_,rfl,_,rfl,l,ps,ms,N,rfl,T,N1,N6,fun H1 S1=>⟨_,rfl,iteF (kq H1 S1)⟩⟩
theorem sc_reduced:FnScope ["rows","cells","done","row","fresh","each"] ["rows","cells"] (Z0i (top 41)):=fS
theorem Y4q (F:FunAt K "reduced" (top 41) .none)(X:K.In h)(G:h.Ns mainGlobals mg)(B:Bs mg)(c_check_table:Cal P w K mg base (k+2) "check_table" ["rows","cells"] Y2w)(c_without_lead:Cal P w K mg base (k+2) "without_lead" ["mark","row"] Z9f)(c_lead:Cal P w K mg base k "lead" ["mark"] (spLead K)) :
  Cal P w K mg base (k+2+1) "reduced" ["rows","cells"] Z9h:=by
 have nd:=sc_reduced.nd
 refine F.cal X G sc_reduced (bnd2 fun _ _ _ _ _ _ _ _=>rfl) (fun vs H Q E' h=>?_) (fun f cdv A outer s H vs Q E' hr h=>?_)
 ·obtain⟨l,ps,ms,N,rfl,_⟩:=h;rfl
 obtain⟨l,ps,ms,N,rfl,T,N1,N6,kq⟩:=h
 have hS:SqL K H l (ps.map V.ref):=SqL.of T.lst
 have lps:(ps.map V.ref).length=ms.length:=by rw[List.length_map,T.mks.length]
 have l6:=T.len
 refine⟨_,(@Z0e _ _ _ _ _ (Z3i (Z0k c_check_table hr rfl (Z0a (pv 0) (Z0a (pv 1) Z0d))))
  (@Z0e _ _ _ _ _ (@Z0r _ _ 2 _ _ _ _ nd rfl (Or.inl rfl) (@Z3f _ _ _ _ Z0d) rfl (.inl rfl))
  (@Z0e _ _ _ _ _ (Z1p PassesOwn.never rfl (Z1d (pv 0)) (Z0m (i:=3) nd rfl (Or.inl rfl))
   (@Z0e _ _ _ _ _ (@Z0r _ _ 4 _ _ _ _ nd rfl (Or.inr rfl) (pv 3) rfl (.inl rfl))
   (@Z0e _ _ _ _ _ (Z1p PassesOwn.never rfl (Z1d (pv 2)) (Z0m (i:=5) nd rfl (Or.inl rfl))
    (@Z0g _ _ _ (@Z0r _ _ 4 _ _ _ _ nd rfl (Or.inr rfl) (Z0k c_without_lead hr rfl (Z0a (pv 4) (Z0a (pv 5) Z0d))) rfl (.inl rfl))))
   (@Z0g _ _ _ (@Z0r _ _ 2 _ _ _ _ nd rfl (Or.inl rfl) (Z0h X2h (Z3k rfl (LcOk.of (Nc:=["each","fresh"]) (mp:=[none,some 4]) (by kernel_rfl)) (Z1d (pv 2)) (fun _ _ _ _=>(Z0m (i:=0) (show (["each","fresh"]:List Str).Nodup by decide +kernel) rfl (Or.inl rfl))) (fun _ _ _ _=>(Z0k c_without_lead hr rfl (Z0a (pv 0) (Z0a (pv 1) Z0d))))) (@Z3f _ _ _ _ (Z0a (pv 4) Z0d))) rfl (.inl rfl))))))
  (@Z0g _ _ _ (Z0j (Y9u c_lead hr rfl B.sorted rfl (pv 2))))))),?_⟩
 try dsimp only[cxK]
 refine⟨_,rfl,_,rfl,l,ps,ms,N,rfl,T,N1,N6,fun H1 S1=>?_⟩
 refine⟨by decide,fun l0 hl0=>?_⟩
 have s1:=S1.trans (Z0f hl0 (.lst []))
 refine⟨_,rfl,l,rfl,⟨_,s1.seq hS⟩,Z2o (K:=K) (a:=l) (xs:=ps.map V.ref) (fun i σ H'=>Same H H'/\∃ (ld:Addr) (ds:List Addr) (D:List Mk) (ls:List Nat) (v3 v4 v5:Option V),H' ld=some (.lst (ds.map V.ref))/\Mks H' ds D/\M53.Dn ms i D ls/\σ=[some (.ref l),some (.int N),some (.ref ld),v3,v4,v5])
  ⟨s1,l0,[],[],[],none,none,none,Z0c,.nil,M53.Dn.start ms,rfl⟩ (fun i σ H' _ e=>e.1.seq hS) ?_ ?_⟩
 ·rintro i x σ H2 hx ⟨S2,ld,ds,D,ls,v3,v4,v5,hld,hD,DN,rfl⟩
  have ilt:i<ms.length:=by
   have:=(List.getElem?_eq_some_iff.mp hx).1
   omega
  rw[List.getElem?_map] at hx
  obtain⟨p,hp,rfl⟩:=Option.map_eq_some_iff.mp hx
  obtain⟨row,hri,p0⟩:=T.mks.get hp
  have eg:ms.getD i (0,0,0)=row:=by rw[List.getD_eq_getElem?_getD,hri];rfl
  have lD:=DN.len
  have lds:=hD.length
  have lxs:(ds.map V.ref).length=i:=by rw[List.length_map,lds,lD]
  have gD:∀ d∈D,ev d/\V6 d:=fun d hd=>M53.G_ev T.tb (by omega) (DN.g d hd)
  have frs:∀ t,t<=i->V6 (M53.fr D ls row t):=fun t ht=>by
   have:=(M53.G_ev T.tb (by omega) (M53.X5p T.tb ilt DN t ht).G).2
   rw[<-eg]
   exact this
  refine⟨_,rfl,?_⟩
  refine⟨_,rfl,ld,rfl,⟨_,SqL.of hld⟩,Z2o (K:=K) (a:=ld) (xs:=ds.map V.ref) (fun t σ H'=>Same H2 H'/\∃ (pf:Addr) (v5:Option V),H' pf=some (T3 (M53.fr D ls row t))/\σ=[some (.ref l),some (.int N),some (.ref ld),some (.ref p),some (.ref pf),v5])
   ⟨Same.refl _,p,_,S2 _ _ p0,rfl⟩ (fun t σ H' _ e=>SqL.of (e.1 _ _ hld)) ?_ ?_⟩
  ·rintro t x σ H3 hx ⟨S3,pf,v5,hpf,rfl⟩
   have tlt:t<i:=by
    have:=(List.getElem?_eq_some_iff.mp hx).1
    omega
   rw[List.getElem?_map] at hx
   obtain⟨q,hq,rfl⟩:=Option.map_eq_some_iff.mp hx
   obtain⟨d,hdi,q0⟩:=hD.get hq
   have ed:D.getD t (0,0,0)=d:=by rw[List.getD_eq_getElem?_getD,hdi];rfl
   have L:=DN.ld t tlt
   refine⟨_,rfl,_,rfl,pf,q,M53.fr D ls row t,d,ls.getD t 0,rfl,hpf,S3 _ _ q0,frs t (by omega),(gD d (List.mem_of_getElem? hdi)).2,by rw[<-ed];exact L,fun r H4 S4 hr4=>?_⟩
   rw[<-ed] at hr4
   exact⟨S3.trans S4,r,_,hr4,rfl⟩
  ·rintro σ H3 ⟨S3,pf,v5,hpf,rfl⟩
   rw[lxs] at hpf
   have FR:=M53.X5p T.tb ilt DN i (Nat.le_refl _)
   have v6f:=frs i (Nat.le_refl _)
   rw[eg] at FR
   obtain⟨n,_,L⟩:=M53.X1g v6f (FR.nz T.tb ilt)
   have DX:=DN.next T.tb ilt FR L
   generalize M53.fr D ls row i=fm at *
   refine⟨_,rfl,ld,rfl,⟨_,SqL.of (S3 _ _ hld)⟩,fun acc hacc=>?_⟩
   refine Z3h (K:=K) (a:=ld) (xs:=ds.map V.ref) (fr:=[some (.ref pf)]) (fun j ys H'=>Same H3 H'/\H' acc=some (.lst ys)/\∃ qs,ys=qs.map V.ref/\Mks H' qs ((D.take j).map fun d=>wl d fm n)) (by rw[lxs];exact s64 (by omega))
    ⟨Z0f hacc _,Z0c,[],rfl,.nil⟩ (fun j ys H' e=>SqL.of (e.1 _ _ (S3 _ _ hld))) ?_ ?_
   ·rintro j x ys HA NN hx hl ⟨SA,cA,qs,rfl,mA⟩ kN
    rw[List.getElem?_map] at hx
    obtain⟨q,hq,rfl⟩:=Option.map_eq_some_iff.mp hx
    obtain⟨d,hdi,q0⟩:=hD.get hq
    refine⟨_,rfl,_,rfl,q,pf,d,fm,n,rfl,SA _ _ (S3 _ _ q0),SA _ _ hpf,(gD d (List.mem_of_getElem? hdi)).2,v6f,L,fun r H4 S4 hr4=>?_⟩
    have c4:=S4 _ _ cA
    refine kN _ _ c4 ⟨Z0s (SA.trans S4) hacc,Z0c,qs++[r],by rw[List.map_append];rfl,?_⟩
    rw[List.take_add_one,hdi,Option.toList_some,List.map_append]
    refine Mks.upd (Paired.snoc (mA.same S4) hr4) c4
   rintro ys HB hlB ⟨SB,cB,qs,rfl,mB⟩
   rw[lxs,List.take_of_length_le (by omega)] at mB
   refine⟨_,rfl,s64 (by simp),fun l1 hl1=>?_⟩
   have s5:=Z0f hl1 (.lst [V.ref pf])
   have zq:=mB.length
   rw[List.length_map] at zq
   refine⟨acc,l1,_,_,rfl,rfl,s5 _ _ cB,Z0c,?_,fun l2 hl2=>?_⟩
   ·rw[List.length_map,zq]
    exact s64 (by simp;omega)
   have s6:=Z0f hl2 (.lst (qs.map V.ref++[V.ref pf]))
   have ss:=(SB.trans s5).trans s6
   refine⟨(S2.trans S3).trans ss,l2,qs++[pf],_,_,_,_,_,?_,Paired.snoc (mB.same (s5.trans s6)) (ss _ _ hpf),DX,rfl⟩
   rw[Z0c,List.map_append]
   rfl
 ·rintro σ H2 ⟨S2,ld,ds,D,ls,v3,v4,v5,hld,hD,DN,rfl⟩
  rw[lps] at DN
  have DM:=DN.all
  have lD:=DN.len
  have lds:=hD.length
  refine⟨_,rfl,ld,ds.map V.ref,D.map (fun d=>(ldm d:Int)),rfl,hld,by rw[List.length_map,List.length_map];omega,by rw[List.length_map];omega,fun i x z hx hz=>?_,fun R qs hR pp po=>?_⟩
  ·rw[List.getElem?_map] at hx hz
   obtain⟨q,hq,rfl⟩:=Option.map_eq_some_iff.mp hx
   obtain⟨d,hdi,rfl⟩:=Option.map_eq_some_iff.mp hz
   obtain⟨d',hdi',q0⟩:=hD.get hq
   rw[hdi] at hdi'
   cases hdi'
   have mem:=List.mem_of_getElem? hdi
   exact⟨q,d,ldm d,rfl,SqT.of q0,(M53.G_ev T.tb (Nat.le_refl _) (DN.g d mem)).2,DM.ld d mem,rfl,rfl⟩
  ·obtain⟨z1,z2,z3⟩:=hD.zip
   obtain⟨rl,pr,er⟩:=Y3d pp (zipk (g:=fun d=>(ldm d:Int)) lds)
   subst er
   have sR:=Z0f hR (.lst ((rl.map fun t:Addr × Mk=>((ldm t.2:Int),V.ref t.1)).map (·.2)))
   have pD:(rl.map (·.2)).Perm D:=by
    have:=pr.map (·.2)
    rw[z3] at this
    exact this
   refine kq R _ (rl.map (·.1)) (rl.map (·.2)) (S2.trans sR) (S2.free hR) ?_ ((Mks.ofzip fun t ht=>z1 t (pr.mem_iff.mp ht)).same sR) (DM.perm T.tb pD) (by rw[pD.length_eq,lD]) ?_
   ·rw[Z0c,List.map_map,List.map_map]
    rfl
   ·rw[List.pairwise_map] at po ⊢
    exact po.imp fun h=>by omega
end
end K62T
namespace M82
open Pc K51 M54 M57 Ba
open M53 (cm ev Tb Nice G V6 vec)
abbrev V4:=Int × Int × Int × Int
def nx (v:V4):V4:=(-v.2.2.2,v.1,v.2.1,v.2.2.1)
theorem Y3a (n:Nat)(v:V4):rot (n+1) v=nx (rot n v):=rfl
theorem Z8j (n:Nat)(v:V4):∀ m,rot (m+n) v=rot m (rot n v)
 | 0=>by rw[Nat.zero_add];rfl
 | m+1=>by rw[Nat.add_right_comm,Y3a,Y3a,Z8j n v m]
theorem Y6d (v:V4):rot 8 v=v:=by
 obtain⟨a,b,c,d⟩:=v
 show ((- -a,- -b,- -c,- -d):V4)=_
 simp only[Int.neg_neg]
theorem X2e (v:V4):∀ k,rot (8*k) v=v
 | 0=>rfl
 | k+1=>by rw[Nat.mul_succ,Z8j,Y6d,X2e v k]
theorem Z8i (n:Nat)(v:V4):rot (n%8) v=rot n v:=by
 have:n=n%8+8*(n / 8):=by omega
 have e:=Z8j (8*(n / 8)) v (n%8)
 rw[X2e,<-this] at e
 exact e.symm
theorem Z6j (x:A5)(n:Nat):spin x ((n:Nat):Int)=(rot n x.1,x.2):=by
 unfold spin
 rw[show (((n:Int))%8).toNat=n%8 by omega,Z8i]
theorem Z9d (x:A5)(a b:Nat):spin (spin x (a:Nat)) (b:Nat)=spin x ((a+b:Nat):Int):=by
 rw[Z6j,Z6j,Z6j,Nat.add_comm,Z8j]
theorem Z3l (x:A5){a b:Nat}(h:a%8=b%8):spin x (a:Nat)=spin x ((b:Nat):Int):=by
 rw[Z6j,Z6j,<-Z8i a,h,Z8i]
theorem r4 {a:Nat}(h:a<4)(v:V4):rot (2*a) v=if a=0 then v else if a=1 then (-v.2.2.1,-v.2.2.2,v.1,v.2.1) else if a=2 then (-v.1,-v.2.1,-v.2.2.1,-v.2.2.2) else (- -v.2.2.1,- -v.2.2.2,-v.1,-v.2.1):=by
 have:a=0∨a=1∨a=2∨a=3:=by omega
 rcases this with rfl | rfl | rfl | rfl<;>rfl
theorem Y2m {x:A5}(nz:x.1≠(0,0,0,0)){a b:Nat}(h:spin x ((2*a:Nat):Int)=spin x ((2*b:Nat):Int)):a%4=b%4:=by
 rw[Z6j,Z6j] at h
 have h1:=congrArg Prod.fst h
 obtain⟨⟨p,q,r,s⟩,g⟩:=x
 have e:∀ n:Nat,rot (2*n) (p,q,r,s)=rot (2*(n%4)) (p,q,r,s):=fun n=>by
  rw[<-Z8i (2*n),show 2*n%8=2*(n%4) by omega]
 have h2:rot (2*a) (p,q,r,s)=rot (2*b) (p,q,r,s):=h1
 rw[e a,e b,r4 (by omega),r4 (by omega)] at h2
 apply Classical.byContradiction
 intro ne
 apply nz
 show ((p,q,r,s):V4)=_
 have a4:a%4<4:=Nat.mod_lt _ (by decide)
 have b4:b%4<4:=Nat.mod_lt _ (by decide)
 generalize a%4=a' at *
 generalize b%4=b' at *
 have key:p=0/\q=0/\r=0/\s=0:=by
  split at h2<;>split at h2<;>(try split at h2)<;>(try split at h2)<;>(try split at h2)<;>(try split at h2)<;>(try (simp only[Prod.mk.injEq] at h2))<;>omega
 rw[key.1,key.2.1,key.2.2.1,key.2.2.2]
def Kp (c:Nat)(f:Nat->A5)(m:Mk):Prop:=∀ w,w<2^c->f (w^^^m.2.1)=spin (f w) ((2*m.1+4*pc (w&&&m.2.2):Nat):Int)
def Nv (c:Nat)(f:Nat->A5):Prop:=∃ w,w<2^c/\(f w).1≠(0,0,0,0)
variable {c:Nat}{f:Nat->A5}
theorem Kp.one:Kp c f (0,0,0):=fun w _=>by
 show f (w^^^0)=spin (f w) ((2*0+4*pc (w&&&0):Nat):Int)
 rw[Nat.xor_zero,Nat.and_zero,Z2c]
 rfl
theorem Kp.mul {m m':Mk}(hf:m'.2.1<2^c)(h:Kp c f m)(h':Kp c f m'):Kp c f (mul m m'):=fun w hw=>by
 show f (w^^^(m.2.1^^^m'.2.1))=spin (f w) ((2*((m.1+m'.1+2*pc (m.2.2&&&m'.2.1))%4)+4*pc (w&&&(m.2.2^^^m'.2.2)):Nat):Int)
 have e:w^^^(m.2.1^^^m'.2.1)=(w^^^m'.2.1)^^^m.2.1:=by rw[Nat.xor_assoc,Nat.xor_comm m.2.1]
 rw[e,h (w^^^m'.2.1) (Nat.xor_lt_two_pow hw hf),h' w hw,Z9d]
 apply Z3l
 have a1:=pcl w m.2.2 m'.2.2
 have a2:=pcl m.2.2 w m'.2.1
 rw[Nat.and_comm m.2.2 (w^^^m'.2.1),Nat.and_comm m.2.2 w] at a2
 omega
theorem Kp.q {m m':Mk}(nz:Nv c f)(h:Kp c f m)(h':Kp c f m')(e:m.2=m'.2):m.1%4=m'.1%4:=by
 obtain⟨w,hw,n0⟩:=nz
 have a:=h w hw
 have b:=h' w hw
 rw[e] at a
 rw[a] at b
 have:=Y2m n0 (a:=m.1+2*pc (w&&&m'.2.2)) (b:=m'.1+2*pc (w&&&m'.2.2)) (by
  rw[show 2*(m.1+2*pc (w&&&m'.2.2))=2*m.1+4*pc (w&&&m'.2.2) by omega,show 2*(m'.1+2*pc (w&&&m'.2.2))=2*m'.1+4*pc (w&&&m'.2.2) by omega]
  exact b)
 omega
theorem Kp.ev {m:Mk}(nz:Nv c f)(hf:m.2.1<2^c)(h:Kp c f m):ev m:=by
 have a:=Kp.q nz (Kp.mul hf h h) Kp.one (show (m.2.1^^^m.2.1,m.2.2^^^m.2.2)=(0,0) by rw[Nat.xor_self,Nat.xor_self])
 have:(m.1+m.1+2*pc (m.2.2&&&m.2.1))%4%4=0:=a
 rw[Nat.and_comm] at this
 show (m.1+pc (m.2.1&&&m.2.2))%2=0
 omega
theorem Kp.cm {m m':Mk}(nz:Nv c f)(hf:m.2.1<2^c)(hf':m'.2.1<2^c)(h:Kp c f m)(h':Kp c f m'):cm m m'=0:=by
 have a:=Kp.q nz (Kp.mul hf' h h') (Kp.mul hf h' h) (show (m.2.1^^^m'.2.1,m.2.2^^^m'.2.2)=(m'.2.1^^^m.2.1,m'.2.2^^^m.2.2) by rw[Nat.xor_comm m.2.1,Nat.xor_comm m.2.2])
 have:(m.1+m'.1+2*pc (m.2.2&&&m'.2.1))%4%4=(m'.1+m.1+2*pc (m'.2.2&&&m.2.1))%4%4:=a
 rw[Nat.and_comm m'.2.2] at this
 show (pc (m.2.1&&&m'.2.2)+pc (m.2.2&&&m'.2.1))%2=0
 omega
structure Ok (c:Nat) (m:Mk):Prop where
 q:m.1<4
 f:m.2.1<2^c
 s:m.2.2<2^c
theorem Ok.mul {m m':Mk}(h:Ok c m)(h':Ok c m'):Ok c (mul m m'):=⟨Nat.mod_lt _ (by decide),Nat.xor_lt_two_pow h.f h'.f,Nat.xor_lt_two_pow h.s h'.s⟩
theorem Ok.v6 {m:Mk}(hc:c<=6)(h:Ok c m):V6 m:=⟨Nat.lt_of_lt_of_le h.f (Nat.pow_le_pow_right (by decide) hc),Nat.lt_of_lt_of_le h.s (Nat.pow_le_pow_right (by decide) hc)⟩
theorem G_kp {ms:List Mk}(ho:∀ r∈ms,Ok c r/\Kp c f r):∀ {m:Nat}{g:Mk},m<=ms.length->G ms m g->Ok c g/\Kp c f g
 | 0,g,_,⟨x,e⟩=>by
  have:g=(0,0,0):=e
  subst this
  exact⟨⟨by decide,Nat.two_pow_pos _,Nat.two_pow_pos _⟩,Kp.one⟩
 | m+1,g,hm,h=>by
  rcases M53.Z7f h with q | ⟨g',q,rfl⟩
  ·exact G_kp ho (by omega) q
  ·have ih:=G_kp ho (by omega:m<=ms.length) q
   have rm:=ho _ (M53.gmem (ms:=ms) (i:=m) (by omega))
   exact⟨ih.1.mul rm.1,Kp.mul rm.1.f ih.2 rm.2⟩
structure Ks (c:Nat) (f:Nat->A5) (R:List Mk):Prop where
 ok:∀ r∈R,Ok c r/\Kp c f r
 ind:Indep R
theorem Ks.nil:Ks c f []:=⟨fun r h=>(nomatch h),fun _ _ _ j h=>absurd h (Nat.not_lt_zero _)⟩
theorem Ks.tb {R:List Mk}(hc:c<=6)(nz:Nv c f)(h:Ks c f R):Tb R :=
 ⟨⟨fun m hm=>(h.ok m hm).1.q,fun m hm=>(h.ok m hm).2.ev nz (h.ok m hm).1.f,fun m hm r hr=>Kp.cm nz (h.ok m hm).1.f (h.ok r hr).1.f (h.ok m hm).2 (h.ok r hr).2⟩,fun m hm=>(h.ok m hm).1.v6 hc,h.ind⟩
theorem Ks.in {R:List Mk}(h:Ks c f R){g:Mk}(hg:In R g):Ok c g/\Kp c f g:=G_kp h.ok (Nat.le_refl _) (M53.in_G.mp hg)
theorem php:∀ (m n:Nat) (g:Nat->Nat),(∀ i,i<n->g i<m)->(∀ i j,i<n->j<n->g i=g j->i=j)->n<=m
 | 0,n,g,h,_=>by
  apply Nat.le_of_not_lt
  intro hn
  exact absurd (h 0 hn) (Nat.not_lt_zero _)
 | m+1,n,g,h,inj=>by
  by_cases ex:∃ i,i<n/\g i=m
  ·obtain⟨i0,hi,e⟩:=ex
   have:=php m (n-1) (fun i=>g (if i<i0 then i else i+1)) (fun i hi'=>by
    show g (if i<i0 then i else i+1)<m
    have l:(if i<i0 then i else i+1)<n:=by split<;>omega
    have ne:(if i<i0 then i else i+1)≠i0:=by split<;>omega
    have a:=h _ l
    have b:g (if i<i0 then i else i+1)≠m:=fun z=>ne (inj _ _ l hi (z.trans e.symm))
    omega) (fun i j hi' hj' z=>by
    have l:(if i<i0 then i else i+1)<n:=by split<;>omega
    have l':(if j<i0 then j else j+1)<n:=by split<;>omega
    have:=inj _ _ l l' z
    split at this<;>split at this<;>omega)
   omega
  ·have:=php m n g (fun i hi=>by
    have a:=h i hi
    have b:g i≠m:=fun z=>ex ⟨i,hi,z⟩
    omega) inj
   omega
theorem len12 {R:List Mk}(T:Tb R):R.length<=12:=by
 have inE:∀ x,x<2^R.length->In R (E R x):=fun x hx=>⟨x,hx,rfl⟩
 have:=php (2^12) (2^R.length) (fun x=>vec (E R x)) (fun x hx=>M53.Y2a (M53.Y8a T (inE x hx))) (fun x y hx hy e=>X1u T.ind hx hy (M53.Y5f (M53.Y8a T (inE x hx)) (M53.Y8a T (inE y hy)) e))
 exact(Nat.pow_le_pow_iff_right (by decide)).mp this
theorem Ks.made {R:List Mk}{m:Mk}(nz:Nv c f)(h:Ks c f R)(o:Ok c m)(k:Kp c f m){x:Nat}(e:(E R x).2=m.2):In R m:=by
 have hin:In R (E R x):=⟨x%2^R.length,Nat.mod_lt _ (Nat.two_pow_pos _),X8k R x⟩
 obtain⟨o',k'⟩:=h.in hin
 have q:=Kp.q nz k' k e
 have:=o'.q
 have:=o.q
 have e1:(E R x).1=m.1:=by omega
 have:E R x=m:=Prod.ext e1 e
 rw[<-this]
 exact hin
theorem X4y {R:List Mk}{m:Mk}(nz:Nv c f)(h:Ks c f R)(o:Ok c m)(k:Kp c f m){kk x:Nat}(k4:kk<4)(e:(chosen R x R.length).foldl mul (kk,0,0)=m):In R m:=by
 refine h.made nz o k (x:=x) ?_
 rw[Z5l k4] at e
 rw[<-e]
 rfl
theorem Y8z {R:List Mk}{m o:Mk}(h1:cm o m=1)(h2:∀ r∈R,cm o r=0)(x:Nat)(hx:x<2^R.length):(E R x).2≠m.2:=fun e=>by
 have:=M53.X7r h2 ⟨x,hx,rfl⟩
 unfold M53.cm at this h1
 rw[e] at this
 rw[this] at h1
 cases h1
theorem Ks.snoc {R:List Mk}{m o:Mk}(h:Ks c f R)(om:Ok c m)(k:Kp c f m)(h1:cm o m=1)(h2:∀ r∈R,cm o r=0):Ks c f (R++[m]):=by
 refine⟨fun r hr=>?_,M53.Y4z h.ind (Y8z h1 h2)⟩
 rcases List.mem_append.mp hr with q | q
 ·exact h.ok r q
 ·rw[List.mem_singleton.mp q]
  exact⟨om,k⟩
theorem X5j {R:List Mk}{m g:Mk}(N:Nice (R++[m]))(h:In R g):In (R++[m]) g:=M53.Z2n N (fun r hr=>M53.Z5f N (List.mem_append_left _ hr)) h
structure Kc (c:Nat) (f:Nat->A5) (R:List Mk):Prop where
 ks:Ks c f R
 all:∀ m,Ok c m->Kp c f m->In R m
theorem Kc.uniq {R R' S S':List Mk}(hc:c<=6)(nz:Nv c f)(h:Kc c f R)(h':Kc c f R')(Q:M53.Dm R S)(Q':M53.Dm R' S')(o:S.Pairwise fun a b=>M53.ldm a<=M53.ldm b)(o':S'.Pairwise fun a b=>M53.ldm a<=M53.ldm b):S=S' :=
 M53.Z9p (h.ks.tb hc nz) (h'.ks.tb hc nz) Q Q' o o' (fun m hm=>h'.all m (h.ks.ok m hm).1 (h.ks.ok m hm).2) (fun m hm=>h.all m (h'.ks.ok m hm).1 (h'.ks.ok m hm).2)
structure Kr (c:Nat) (f:Nat->A5) (S:List Mk):Prop where
 ok:∀ m∈S,Ok c m/\Kp c f m/\ev m
 ld:∀ m∈S,M53.IsLd (vec m) (M53.ldm m)
 off:S.Pairwise M53.Off
 rise:S.Pairwise fun a b=>M53.ldm a<=M53.ldm b
 nice:Nice S
 all:∀ m,Ok c m->Kp c f m->In S m
 len:S.length<=12
theorem Kc.red {R S:List Mk}(hc:c<=6)(nz:Nv c f)(h:Kc c f R)(Q:M53.Dm R S)(o:S.Pairwise fun a b=>M53.ldm a<=M53.ldm b)(l:S.length=R.length):Kr c f S:=by
 have T:=h.ks.tb hc nz
 have N:=M53.Z8r T Q.g
 refine⟨fun m hm=>?_,Q.ld,Q.off,o,N,fun m om km=>M53.Z2n N Q.back (h.all m om km),by rw[l];exact len12 T⟩
 have:=h.ks.in (Q.g m hm)
 exact⟨this.1,this.2,this.2.ev nz this.1.f⟩
end M82
namespace K62
open PySem PySem.Spec PyProof.Rows L2 Am Pc Ba
open M54 (Mk)
open K62T (T3 L3 Mks Z3z Z2p Z2e)
open M82 (Kp Nv)
abbrev Ws:=List (Nat × Nat)
def Prs (H:Hp)(qs:List Addr)(W:Ws):Prop:=Paired (fun q (p:Nat × Nat)=>H q=some (.tup [.int p.1,.int p.2])) qs W
theorem Prs.same {H H':Hp}{qs:List Addr}{W:Ws}(h:Prs H qs W)(s:Same H H'):Prs H' qs W:=Paired.imp' (fun _ _ c=>s _ _ c) h
theorem Prs.upd {H:Hp}{l:Addr}{xs ys:List V}{qs:List Addr}{W:Ws}(h:Prs H qs W)(hl:H l=some (.lst xs)):Prs (upd H l (.lst ys)) qs W :=
 Paired.imp' (fun _ _ c=>by rw[Z0x (Z5o c hl (by intro z;cases z))];exact c) h
theorem Prs.length {H:Hp}{qs:List Addr}{W:Ws}(h:Prs H qs W):qs.length=W.length:=Paired.length h
theorem Prs.snoc {H:Hp}{qs:List Addr}{W:Ws}{q:Addr}{p:Nat × Nat}(h:Prs H qs W)(e:H q=some (.tup [.int p.1,.int p.2])):Prs H (qs++[q]) (W++[p]):=Paired.snoc h e
theorem Prs.get {H:Hp}:∀ {qs:List Addr}{W:Ws}{i:Nat}{q:Addr},Prs H qs W->qs[i]?=some q->∃ p,W[i]?=some p/\H q=some (.tup [.int p.1,.int p.2])
 | q'::qs,p::W,0,q,.cons a r,h=>by
  have:q'=q:=by simpa using h
  subst this
  exact⟨p,rfl,a⟩
 | q'::qs,p::W,i+1,q,.cons a r,h=>by
  obtain⟨p',b,c⟩:=Prs.get (qs:=qs) (W:=W) (i:=i) (q:=q) r (by simpa using h)
  exact⟨p',b,c⟩
def Fit (m:Mk)(t:Nat × Nat):Prop:=(m.1+2*pc (t.1&&&m.2.2))%4=t.2
instance (m:Mk) (t:Nat × Nat):Decidable (Fit m t):=inferInstanceAs (Decidable (_=_))
def spHasS (K:PySem.W.Frag):Sp:=fun vs H Q _=>∃ (p l:Addr) (qs:List Addr) (W:Ws) (m:Mk),vs=[.ref p,.ref l]/\SqT K H p (L3 m)/\SqL K H l (qs.map V.ref)/\Prs H qs W/\Q (.bl (decide (∀ t∈W,Fit m t))) H
structure Spn (c:Nat) (f:Nat->A5) (fl i:Nat) (W:Ws):Prop where
 len:W.length<=i
 pt:∀ t∈W,t.1<2^c/\t.2<4/\(f t.1).1≠(0,0,0,0)/\f (t.1^^^fl)=spin (f t.1) ((2*t.2:Nat):Int)
 all:∀ w,w<i->f w≠((0,0,0,0),0)->∃ k,(w,k)∈W
def Y5q (K:PySem.W.Frag):Sp:=fun vs H Q _=>∃ (l:Addr) (ps:List Addr) (f:Nat->A5) (c fl:Nat),vs=[.ref l,.int fl]/\Bo K H l ps f c/\c<=6/\fl<2^c/\(∀ i,i<2^c->(f i).1=(0,0,0,0)->(f i).2=0) ∧
 (∀ H',Same H H'->(∃ w,w<2^c/\(f w).1≠(0,0,0,0)/\∀ k:Nat,k<4->f (w^^^fl)≠spin (f w) ((2*k:Nat):Int))->Q .non H') ∧
 ∀ (r:Addr) (H':Hp) (qs:List Addr) (W:Ws),Same H H'->H' r=some (.lst (qs.map V.ref))->Prs H' qs W->Spn c f fl (2^c) W->Q (.ref r) H'
theorem Y7r {x y:A5}(h:l5 x=l5 y):x=y:=by
 obtain⟨⟨a,b,c,d⟩,e⟩:=x
 obtain⟨⟨a',b',c',d'⟩,e'⟩:=y
 simp only[l5,List.cons.injEq,and_true] at h
 obtain⟨rfl,rfl,rfl,rfl,rfl⟩:=h
 rfl
section
variable {P:Program}{w:World}{K:PySem.W.Frag}{mg:Str->Option Value}{base:Heap}{k:Nat}{h:Heap}
theorem sc_hass:FnScope ["mark","spins","word","k"] ["mark","spins"] (Z0i (top 54)):=fS
theorem X4j (F:FunAt K "has_spins" (top 54) .none)(X:K.In h)(G:h.Ns mainGlobals mg)(c_ones:Cal P w K mg base k "ones" ["number"] K62T.spOnes):Cal P w K mg base (k+1) "has_spins" ["mark","spins"] (spHasS K):=by
 have nd:=sc_hass.nd
 refine F.cal X G sc_hass (bnd2 fun _ _ _ _ _ _ _ _=>rfl) (fun vs H Q E h=>?_) (fun f cdv A outer s H vs Q E hr h=>?_)
 ·obtain⟨p,l,qs,W,m,rfl,_⟩:=h;rfl
 obtain⟨p,l,qs,W,m,rfl,SP,SL,PW,kq⟩:=h
 have kT:(∀ t∈W,Fit m t)->Q (.bl true) H:=fun z=>by rw[decide_eq_true z] at kq;exact kq
 have kF:(¬ ∀ t∈W,Fit m t)->Q (.bl false) H:=fun z=>by rw[decide_eq_false z] at kq;exact kq
 refine⟨_,(@Z0e _ _ _ _ _ (Z1p PassesOwn.never rfl (Z1d (pv 1)) (@Z4n _ _ _ _ _ _ rfl (@Z1b _ _ _ _ _ (@Z0m _ _ 2 _ nd rfl (Or.inl rfl) (by first | exact .inl rfl | exact .inr rfl)) (@Z1b _ _ _ _ _ (@Z0m _ _ 3 _ nd rfl (Or.inl rfl) (by first | exact .inl rfl | exact .inr rfl)) Z3j rfl) rfl) rfl rfl)
   (@Z0g _ _ _ (Z0y (Z0o Z5d (Z0h Z0u (Z0h Z1c (Z0n Z0l (pv 0) Z0b (fun _ _=>rfl)) (Z0h Z2y Z0b (Z0k c_ones hr rfl (Z0a (Z0h Z1t (pv 2) (Z0n Z0l (pv 0) Z0b (fun _ _=>rfl))) Z0d)))) Z0b) (pv 3) (nomark _))
    (@Z0g _ _ _ (Z0j Z2w))
    Z0p)))
  (@Z0g _ _ _ (Z0j Z2w))),?_⟩
 try dsimp only[cxK]
 refine⟨_,rfl,l,rfl,⟨_,SL⟩,Z2o (K:=K) (a:=l) (xs:=qs.map V.ref) (fun i σ H'=>H'=H/\(∀ t∈W.take i,Fit m t)/\∃ v2 v3:Option V,σ=[some (.ref p),some (.ref l),v2,v3])
  ⟨rfl,(by rw[List.take_zero];exact fun _ z=>(nomatch z)),_,_,rfl⟩ (fun i σ H' _ e=>by rw[e.1];exact SL) ?_ ?_⟩
 ·rintro i x σ H1 hx ⟨rfl,hf,v2,v3,rfl⟩
  rw[List.getElem?_map] at hx
  obtain⟨q,hq,rfl⟩:=Option.map_eq_some_iff.mp hx
  obtain⟨⟨u,kk⟩,hW,eq⟩:=PW.get hq
  refine⟨q,_,rfl,SqT.of eq,rfl,_,_,rfl,_,_,rfl,rfl,?_⟩
  refine⟨_,rfl,p,_,_,_,rfl,rfl,SP,rfl,_,rfl,_,rfl,p,_,_,_,rfl,rfl,SP,rfl,_,_,rfl,rfl,u&&&m.2.2,Z3z _ _,_,_,rfl,rfl,.inl ⟨by decide,by decide⟩,_,_,rfl,rfl,_,_,rfl,rfl,Z2e,_,rfl,rfl,?_⟩
  refine⟨_,rfl,neI (fun ne=>?_) (fun e=>?_)⟩
  ·refine kF fun z=>ne ?_
   have:=z (u,kk) (List.mem_of_getElem? hW)
   unfold Fit at this
   simp only at this
   omega
  ·refine⟨rfl,fun t ht=>?_,_,_,rfl⟩
   rw[List.take_add_one,hW,Option.toList_some] at ht
   rcases List.mem_append.mp ht with z | z
   ·exact hf t z
   ·rw[List.mem_singleton.mp z]
    show (m.1+2*pc (u&&&m.2.2))%4=kk
    omega
 ·rintro σ H1 ⟨rfl,hf,v2,v3,rfl⟩
  rw[List.length_map,PW.length,List.take_length] at hf
  exact kT hf
theorem sc_spins:FnScope ["board","flips","spins","word","one","fitting"] ["board","flips"] (Z0i (top 53)):=fS
theorem X0f {aZ:Addr}(gZ:mg "NOUGHT"=some (.ref aZ))(kZ:∀ H:Hp,At5 K H aZ ((0,0,0,0),0))(F:FunAt K "spins_on" (top 53) .none)(X:K.In h)(G:h.Ns mainGlobals mg)(B:Bs mg)(c_spun:Cal P w K mg base k "spun" ["one","k"] (Z8d K)):Cal P w K mg base (k+1) "spins_on" ["board","flips"] (Y5q K):=by
 have nd:=sc_spins.nd
 refine F.cal X G sc_spins (bnd2 fun _ _ _ _ _ _ _ _=>rfl) (fun vs H Q E h=>?_) (fun f cdv A outer s H vs Q E hr h=>?_)
 ·obtain⟨l,ps,f,c,fl,rfl,_⟩:=h;rfl
 obtain⟨l,ps,f,c,fl,rfl,BO,c6,flc,z0,kN,kq⟩:=h
 have SL:SqL K H l (ps.map V.ref):=SqL.of BO.lst
 have p6:=pow6 c6
 have lps:=BO.len
 refine⟨_,(@Z0e _ _ _ _ _ (@Z0r _ _ 2 _ _ _ _ nd rfl (Or.inl rfl) (@Z3f _ _ _ _ Z0d) rfl (.inl rfl))
  (@Z0e _ _ _ _ _ (Z1p PassesOwn.never rfl (Z5m rfl B.enumerate (Z0a (pv 0) Z0d)) (@Z4n _ _ _ _ _ _ rfl (@Z1b _ _ _ _ _ (@Z0m _ _ 3 _ nd rfl (Or.inr rfl) (by first | exact .inl rfl | exact .inr rfl)) (@Z1b _ _ _ _ _ (@Z0m _ _ 4 _ nd rfl (Or.inr rfl) (by first | exact .inl rfl | exact .inr rfl)) Z3j rfl) rfl) rfl rfl)
   (@Z0g _ _ _ (Z0y (Z0o (Y6p hr.units) (pv 4) (Z3g (v:=.ref aZ) rfl gZ rfl) (nomark _))
    (@Z0e _ _ _ _ _ (Z4z (i:=5) rfl nd rfl rfl (LcOk.of (Nc:=["k","board","flips","word","one"]) (mp:=[none,some 0,some 1,some 3,some 4]) (by kernel_rfl)) (Z0w rfl B.range (Z0a Z0b Z0d)) (fun _ _ _ _=>(Z0m (i:=0) (show (["k","board","flips","word","one"]:List Str).Nodup by decide +kernel) rfl (Or.inl rfl))) (fun _ _ _ _=>(Z0o (Z8l hr.units) (Z0k c_spun hr rfl (Z0a (pv 4) (Z0a (Z0h Z2y Z0b (pv 0)) Z0d))) (Z0n Z8p (pv 1) (Z0h Z3n (pv 3) (pv 2)) (fun _ _=>rfl)) (nomark _))) (fun _ _ _ _=>(pv 0)) rfl)
    (@Z0e _ _ _ _ _ (Z0y (Z0o Z1u (Z0q Z0v rfl B.len PySem.boot_len (Z0a (pv 5) Z0d)) Z0b (nomark _))
     (@Z0g _ _ _ (Z0j Z9r))
     Z0p)
    (@Z0g _ _ _ (Z3i (Y1d PySem.F.plainAttrs_list PySem.F.slot_list_append PySem.F.type_list_append Z2m (pv 2) (Z0a (@Z0z _ _ _ _ _ (Z0a (pv 3) (Z0a (Z0n Z1a (pv 5) Z0b (fun _ _=>rfl)) Z0d))) Z0d))))))
    Z0p)))
  (@Z0g _ _ _ (Z0j (pv 2))))),?_⟩
 try dsimp only[cxK]
 refine⟨Nat.zero_le _,fun lf hlf=>?_⟩
 have s0:=Z0f hlf (.lst [])
 refine⟨_,rfl,l,_,rfl,s0.seq SL,Y3w (K:=K) (a:=l) (xs:=ps.map V.ref) (fun i σ H'=>Same H H'/\∃ (rs:List Addr) (W:Ws) (v3 v4 v5:Option V),H' lf=some (.lst (rs.map V.ref))/\Prs H' rs W/\Spn c f fl i W/\σ=[some (.ref l),some (.int fl),some (.ref lf),v3,v4,v5])
  ⟨s0,[],[],_,_,_,Z0c,.nil,⟨Nat.le_refl _,fun _ z=>(nomatch z),fun _ z=>absurd z (Nat.not_lt_zero _)⟩,rfl⟩ (fun i σ H' _ e=>e.1.seq SL) ?_ ?_⟩
 ·rintro i x σ H1 T hx ⟨S1,rs,W,v3,v4,v5,a1,P1,SP,rfl⟩ hT
  rw[List.getElem?_map] at hx
  obtain⟨p,hp,rfl⟩:=Option.map_eq_some_iff.mp hx
  have ilt:i<2^c:=by rw[<-lps];exact(List.getElem?_eq_some_iff.mp hp).1
  have sT:=Z0f hT (.tup [.int i,.ref p])
  have S2:=S1.trans sT
  generalize hH2:upd H1 T (.tup [.int i,.ref p])=H2 at *
  have hT2:H2 T=some (.tup [.int i,.ref p]):=by rw[<-hH2];exact Z0c
  have a2:=sT _ _ a1
  have P2:=P1.same sT
  have hp2:=(BO.vals i p hp).same S2
  refine⟨T,_,rfl,SqT.of hT2,rfl,_,_,rfl,_,_,rfl,rfl,?_⟩
  refine⟨_,rfl,p,aZ,l5 (f i),[0,0,0,0,0],rfl,rfl,hp2,kZ H2,_,rfl,blI (fun ne=>?_) (fun e0=>?_)⟩
  ·have fn:f i≠((0,0,0,0),0):=fun z=>by rw[z] at ne;exact absurd ne (by decide)
   have f1:(f i).1≠(0,0,0,0):=fun z=>fn (Prod.ext z (z0 i ilt z))
   have xl:i^^^fl<2^c:=Nat.xor_lt_two_pow ilt flc
   obtain⟨p',hp',q',at'⟩:=(BO.same S2).at xl
   refine⟨_,rfl,by decide,by decide,fun acc hacc=>?_⟩
   refine Z5h (n:=4) (fr:=[some (.ref l),some (.int fl),some (.int i),some (.ref p)]) (fun j ys H'=>Same H2 H'/\H' acc=some (.lst ys)/\∃ ks:List Nat,ys=ks.map (fun k=>V.int (k:Nat))/\∀ k,k∈ks ↔ (k<j/\f (i^^^fl)=spin (f i) ((2*k:Nat):Int))) (by decide)
    ⟨Z0f hacc _,Z0c,[],rfl,fun k=>⟨fun z=>(nomatch z),fun z=>absurd z.1 (Nat.not_lt_zero _)⟩⟩ ?_ (fun hm z=>?_) ?_
   ·rintro j ys H3 N hj hy ⟨S3,a3,ks,rfl,kk⟩ kN3
    have e0:(0:Int)+(j:Int)=(j:Int):=Int.zero_add _
    refine⟨_,rfl,_,rfl,_,_,rfl,rfl,.inl ⟨by decide,by decide⟩,p,(f i).1.1,(f i).1.2.1,(f i).1.2.2.1,(f i).1.2.2.2,(f i).2,_,rfl,hp2.same S3,fun r H4 S4 hr4=>?_⟩
    have e2:(2:Int)*(0+(j:Int))=((2*j:Nat):Int):=by omega
    have hr4':At5 K H4 r (spin (f i) ((2*j:Nat):Int)):=by rw[<-e2];exact hr4
    have S34:=S3.trans S4
    refine⟨_,rfl,_,rfl,_,rfl,_,_,rfl,rfl,l,_,_,.ref p',rfl,rfl,(S2.trans S34).seq SL,(by rw[Z4p];exact at'),r,p',l5 (spin (f i) ((2*j:Nat):Int)),l5 (f (i^^^fl)),rfl,rfl,hr4',q'.same S34,?_⟩
    refine⟨_,rfl,?_⟩
    refine kN3 _ _ (fun hb1=>?_) (fun hb0=>?_)
    ·have e1:f (i^^^fl)=spin (f i) ((2*j:Nat):Int):=(Y7r (of_decide_eq_true hb1)).symm
     refine⟨_,rfl,S4 _ _ a3,Z0s S34 hacc,Z0c,ks++[j],by rw[List.map_append,e0];rfl,fun k=>?_⟩
     rw[List.mem_append,kk k,List.mem_singleton]
     constructor
     ·rintro (z | rfl)
      ·exact⟨by omega,z.2⟩
      ·exact⟨by omega,e1⟩
     ·rintro ⟨z,z'⟩
      by_cases q:k=j
      ·exact .inr q
      ·exact .inl ⟨by omega,z'⟩
    ·have e1:¬ f (i^^^fl)=spin (f i) ((2*j:Nat):Int):=fun z=>by
      have:=of_decide_eq_false hb0
      exact this (by rw[z])
     refine⟨S34,S4 _ _ a3,ks,rfl,fun k=>?_⟩
     rw[kk k]
     constructor
     ·exact fun z=>⟨by omega,z.2⟩
     ·rintro ⟨z,z'⟩
      have q:k≠j:=fun q=>e1 (by rw[<-q];exact z')
      exact⟨by omega,z'⟩
   ·obtain⟨v,e,q⟩:=z
    exact⟨v,e,hm _ _ q⟩
   rintro ys H3 ⟨S3,a3,ks,rfl,kk⟩
   have SK:SqL K H3 acc (ks.map fun k=>V.int (k:Nat)):=SqL.of a3
   refine⟨_,rfl,acc,_,rfl,.inl SK,rfl,_,rfl,eqI (fun e=>?_) (fun e=>?_)⟩
   ·have:ks=[]:=by
     cases ks with
     | nil=>rfl
     | cons k0 ks=>simp at e;omega
    subst this
    exact kN _ (S2.trans S3) ⟨i,ilt,f1,fun k k4 z=>(nomatch (kk k).mpr ⟨k4,z⟩)⟩
   ·cases ks with
    | nil=>exact absurd rfl e
    | cons k0 ks =>
     obtain⟨k04,ke⟩:=(kk k0).mp (.head _)
     have a4:=S3 _ _ a2
     refine⟨_,rfl,.inl ⟨rfl,_,SqL.of a4⟩,_,rfl,_,rfl,acc,_,_,_,rfl,rfl,SK,at0,t2,fun t ht=>?_⟩
     have s5:=Z0f ht (.tup [.int i,.int (k0:Nat)])
     have wl:=SP.len
     refine⟨lf,_,_,rfl,rfl,s5 _ _ a4,(by rw[List.length_map,P1.length];exact Nat.lt_of_le_of_lt (Nat.le_trans wl (Nat.le_of_lt (Nat.lt_of_lt_of_le ilt p6))) (by decide)),?_⟩
     refine⟨Z0s ((S2.trans S3).trans s5) hlf,rs++[t],W++[(i,k0)],_,_,_,(by rw[Z0c,List.map_append];rfl),Prs.upd (Prs.snoc ((P2.same S3).same s5) Z0c) (s5 _ _ a4),⟨by rw[List.length_append];simp;omega,fun t' ht'=>?_,fun w' hw' fw'=>?_⟩,rfl⟩
     ·rcases List.mem_append.mp ht' with z | z
      ·exact SP.pt t' z
      ·rw[List.mem_singleton.mp z]
       exact⟨ilt,k04,f1,ke⟩
     ·by_cases q:w'=i
      ·subst q
       exact⟨k0,List.mem_append_right _ (.head _)⟩
      ·obtain⟨k',hk'⟩:=SP.all w' (by omega) fw'
       exact⟨k',List.mem_append_left _ hk'⟩
  ·have fz:f i=((0,0,0,0),0):=Y7r (by
    have:decide (l5 (f i)=[0,0,0,0,0])=true:=by simpa using e0
    exact of_decide_eq_true this)
   refine⟨S2,rs,W,_,_,_,a2,P2,⟨Nat.le_succ_of_le SP.len,SP.pt,fun w' hw' fw'=>?_⟩,rfl⟩
   by_cases q:w'=i
   ·subst q
    exact absurd fz fw'
   ·exact SP.all w' (by omega) fw'
 ·rintro σ H1 ⟨S1,rs,W,v3,v4,v5,a1,P1,SP,rfl⟩
  rw[List.length_map,lps] at SP
  exact⟨_,rfl,kq lf H1 rs W S1 a1 P1 SP⟩
theorem X1b {K:PySem.W.Frag}{l:Addr}{xs:List V}{tc:TT}{te:TE}{fr:L2.St}{H1:Hp}{acc:Addr}{Q:VK}(Pv:Nat->List V->Hp->Prop)(hn:xs.length<=sizeLine)(h0:Pv 0 [] (upd H1 acc (.lst [])))(hl:∀ i ys H,Pv i ys H->SqL K H l xs)
  (hs:∀ i x ys H (N:Bool->Hp->Prop),xs[i]?=some x->ys.length<=i->Pv i ys H->(∀ b H5,(b=true->te (some x::fr) H5 fun y H6=>H6 acc=some (.lst ys)/\Pv (i+1) (ys++[y]) (upd H6 acc (.lst (ys++[y]))))->(b=false->Pv (i+1) ys H5)->N b H5)->tc (some x::fr) H N)
  (mono:∀ {σ H}{R R':VK},(∀ v H,R v H->R' v H)->te σ H R->te σ H R')
  (hd:∀ ys H,Pv xs.length ys H->Q (.ref acc) H):LcWF (Itl K l) (gName 0) tc te (none::fr) H1 acc Q:=by
 refine⟨fun i m ys σ2 H2=>m=xs.length-i/\i<=xs.length/\ys.length<=i/\(∃ v,σ2=v::fr)/\Pv i ys H2,⟨xs.length,by simp,Nat.zero_le _,Nat.le_refl _,⟨_,rfl⟩,h0⟩,?_⟩
 rintro i m ys σ2 H2 ⟨rfl,hi,hyl,⟨v,rfl⟩,p⟩
 have sq:=hl i ys H2 p
 by_cases hlt:i<xs.length
 ·have e3:xs[i]?=some xs[i]:=by simp[hlt]
  refine .inr ⟨⟨_,_,sq,e3⟩,fun u H3 y3=>?_⟩
  obtain⟨rfl,y4⟩:=y3
  have:=y4 _ sq
  rw[e3] at this
  cases this
  refine hs i _ ys _ _ e3 hyl p fun b H5 ht hf=>⟨fun e=>mono (fun y H6 q=>?_) (ht e),fun e=>⟨xs.length-(i+1),by omega,rfl,hlt,by omega,⟨_,rfl⟩,hf e⟩⟩
  exact⟨q.1,by omega,xs.length-(i+1),by omega,rfl,hlt,by rw[List.length_append];simp;omega,⟨_,rfl⟩,q.2⟩
 ·have e:i=xs.length:=by omega
  subst e
  exact .inl ⟨⟨_,sq,Nat.le_refl _⟩,hd ys H2 p⟩
def mkS (w k fl s:Nat):Mk:=((k+2*pc (w&&&s))%4,fl,s)
def Okz (c:Nat)(f:Nat->A5):Prop:=∀ i,i<2^c->(f i).1=(0,0,0,0)->(f i).2=0
def spKW (K:PySem.W.Frag):Sp:=fun vs H Q _=>∃ (l:Addr) (ps:List Addr) (f:Nat->A5) (c fl:Nat),vs=[.ref l,.int fl]/\Bo K H l ps f c/\c<=6/\fl<2^c/\Okz c f/\Nv c f ∧
 ∀ (r:Addr) (H':Hp) (qs:List Addr) (ms:List Mk),H r=none->Same H H'->H' r=some (.lst (qs.map V.ref))->Mks H' qs ms->ms.length<=64->(∀ m∈ms,M82.Ok c m/\Kp c f m)->(∀ m,M82.Ok c m->Kp c f m->m.2.1=fl->m∈ms)->Q (.ref r) H'
theorem X7g {c:Nat}{f:Nat->A5}{fl:Nat}{W:Ws}(S:Spn c f fl (2^c) W)(z:Okz c f)(flc:fl<2^c){m:Mk}(e:m.2.1=fl)(h:∀ t∈W,Fit m t):Kp c f m:=fun w hw=>by
 rw[e]
 by_cases fw:f w=((0,0,0,0),0)
 ·have x0:spin (f w) ((2*m.1+4*pc (w&&&m.2.2):Nat):Int)=((0,0,0,0),0):=by
   rw[fw,<-M82.Z3l _ (Nat.mod_mod _ 8)]
   have:(2*m.1+4*pc (w&&&m.2.2))%8<8:=Nat.mod_lt _ (by decide)
   generalize (2*m.1+4*pc (w&&&m.2.2))%8=n at *
   have:n=0∨n=1∨n=2∨n=3∨n=4∨n=5∨n=6∨n=7:=by omega
   rcases this with rfl | rfl | rfl | rfl | rfl | rfl | rfl | rfl<;>rfl
  rw[x0]
  apply Classical.byContradiction
  intro ne
  have xl:w^^^fl<2^c:=Nat.xor_lt_two_pow hw flc
  obtain⟨k,hk⟩:=S.all _ xl ne
  obtain⟨_,k4,n0,e1⟩:=S.pt _ hk
  have e2:w^^^fl^^^fl=w:=by rw[Nat.xor_assoc,Nat.xor_self,Nat.xor_zero]
  have e1:f (w^^^fl^^^fl)=spin (f (w^^^fl)) ((2*k:Nat):Int):=e1
  rw[e2,fw] at e1
  have e3:spin ((0,0,0,0),0) ((8-2*k:Nat):Int)=spin (spin (f (w^^^fl)) ((2*k:Nat):Int)) ((8-2*k:Nat):Int):=by rw[<-e1]
  rw[M82.Z9d,M82.Z3l (a:=2*k+(8-2*k)) (b:=0) _ (by omega)] at e3
  have e4:spin ((0,0,0,0),0) ((8-2*k:Nat):Int)=(((0,0,0,0),0):A5):=by
   have:k=0∨k=1∨k=2∨k=3:=by omega
   rcases this with rfl | rfl | rfl | rfl<;>rfl
  rw[e4] at e3
  exact ne e3.symm
 ·obtain⟨k,hk⟩:=S.all _ hw fw
  obtain⟨_,k4,n0,e1⟩:=S.pt _ hk
  have:=h _ hk
  unfold Fit at this
  simp only at this e1
  rw[e1]
  apply M82.Z3l
  omega
theorem X7u {c:Nat}{f:Nat->A5}{fl:Nat}{W:Ws}(S:Spn c f fl (2^c) W){m:Mk}(e:m.2.1=fl)(h:Kp c f m):∀ t∈W,Fit m t:=fun t ht=>by
 obtain⟨wl,k4,n0,e1⟩:=S.pt t ht
 have:=h t.1 wl
 rw[e,e1] at this
 have q:=M82.Y2m n0 (a:=t.2) (b:=m.1+2*pc (t.1&&&m.2.2)) (by rw[show 2*(m.1+2*pc (t.1&&&m.2.2))=2*m.1+4*pc (t.1&&&m.2.2) by omega];exact this)
 show (m.1+2*pc (t.1&&&m.2.2))%4=t.2
 omega
theorem X8s {c:Nat}{f:Nat->A5}{fl w:Nat}(hw:w<2^c)(h:∀ k:Nat,k<4->f (w^^^fl)≠spin (f w) ((2*k:Nat):Int)){m:Mk}(e:m.2.1=fl):¬ Kp c f m:=fun z=>by
 have:=z w hw
 rw[e,M82.Z3l (b:=2*((m.1+2*pc (w&&&m.2.2))%4)) _ (by omega)] at this
 exact h _ (Nat.mod_lt _ (by decide)) this
theorem sc_kw:FnScope ["board","flips","spins","first","marks"] ["board","flips"] (Z0i (top 52)):=fS
theorem X8q (F:FunAt K "keepers_with" (top 52) .none)(X:K.In h)(G:h.Ns mainGlobals mg)(B:Bs mg)(c_spins_on:Cal P w K mg base k "spins_on" ["board","flips"] (Y5q K))(c_ones:Cal P w K mg base k "ones" ["number"] K62T.spOnes)(c_has_spins:Cal P w K mg base k "has_spins" ["mark","spins"] (spHasS K)) :
  Cal P w K mg base (k+1) "keepers_with" ["board","flips"] (spKW K):=by
 have nd:=sc_kw.nd
 refine F.cal X G sc_kw (bnd2 fun _ _ _ _ _ _ _ _=>rfl) (fun vs H Q E h=>?_) (fun f cdv A outer s H vs Q E hr h=>?_)
 ·obtain⟨l,ps,f,c,fl,rfl,_⟩:=h;rfl
 obtain⟨l,ps,f,c,fl,rfl,BO,c6,flc,oz,nv,kq⟩:=h
 have SL:SqL K H l (ps.map V.ref):=SqL.of BO.lst
 have p6:=pow6 c6
 have lps:=BO.len
 refine⟨_,(@Z0e _ _ _ _ _ (@Z0r _ _ 2 _ _ _ _ nd rfl (Or.inr rfl) (Z0k c_spins_on hr rfl (Z0a (pv 0) (Z0a (pv 1) Z0d))) rfl (.inl rfl))
  (@Z0e _ _ _ _ _ (Z0y (Z0o X2g (pv 2) Z9r (nomark _))
   (@Z0g _ _ _ (Z0j (@Z3f _ _ _ _ Z0d)))
   Z0p)
  (@Z0e _ _ _ _ _ (@Z0r _ _ 3 _ _ _ _ nd rfl (Or.inr rfl) (Z0n Z1a (pv 2) Z0b (fun _ _=>rfl)) rfl (.inl rfl))
  (@Z0e _ _ _ _ _ (Z2z (i:=4) rfl nd rfl rfl (LcOk.of (Nc:=["signs","flips","first"]) (mp:=[none,some 1,some 3]) (by kernel_rfl)) (Z0w rfl B.range (Z0a (Z0q Z0v rfl B.len PySem.boot_len (Z0a (pv 0) Z0d)) Z0d)) (fun _ _ _ _=>(Z0m (i:=0) (show (["signs","flips","first"]:List Str).Nodup by decide +kernel) rfl (Or.inl rfl))) (fun _ _ _ _=>(@Z0z _ _ _ _ _ (Z0a (Z0h Z0u (Z0h Z1z (Z0n Z4u (pv 2) Z0b (fun _ _=>rfl)) (Z0h Z2y Z0b (Z0k c_ones hr rfl (Z0a (Z0h Z1t (Z0n Z4u (pv 2) Z0b (fun _ _=>rfl)) (pv 0)) Z0d)))) Z0b) (Z0a (pv 1) (Z0a (pv 0) Z0d))))) rfl)
  (@Z0g _ _ _ (Z0j (Y3f rfl (LcOk.of (Nc:=["mark","spins"]) (mp:=[none,some 2]) (by kernel_rfl)) (Z1d (pv 4)) (fun _ _ _ _=>(Z0m (i:=0) (show (["mark","spins"]:List Str).Nodup by decide +kernel) rfl (Or.inl rfl))) (fun _ _ _ _=>(Z1l (Z0k c_has_spins hr rfl (Z0a (pv 0) (Z0a (pv 1) Z0d))))) (fun _ _ _ _=>(pv 0))))))))),?_⟩
 try dsimp only[cxK]
 refine⟨_,rfl,_,rfl,l,ps,f,c,fl,rfl,BO,c6,flc,oz,fun H1 S1 no=>?_,fun r1 H1 qs W S1 h1 P1 SP=>?_⟩
 ·refine⟨_,rfl,rfl,_,rfl,decI (fun _=>?_) (fun z=>absurd rfl z)⟩
  obtain⟨w0,hw,n0,nk⟩:=no
  refine⟨Nat.zero_le _,fun r hr=>kq r _ [] [] (S1.free hr) (S1.trans (Z0f hr _)) Z0c .nil (Nat.zero_le _) (fun _ z=>(nomatch z)) fun m om km e=>absurd km (X8s hw nk e)⟩
 ·refine⟨_,rfl,rfl,_,rfl,decI (fun z=>(nomatch z)) (fun _=>?_)⟩
  obtain⟨w1,hw1,n1⟩:=nv
  obtain⟨k1,hk1⟩:=SP.all w1 hw1 (fun z=>n1 (by rw[z]))
  cases W with
  | nil=>exact(nomatch hk1)
  | cons t0 W =>
  cases qs with
  | nil=>exact absurd P1.length (by simp)
  | cons q0 qs =>
  obtain⟨w0,k0⟩:=t0
  obtain⟨p0,hW0,hq0⟩:=P1.get (i:=0) (q:=q0) rfl
  cases hW0
  have k04:k0<4:=(SP.pt _ (.head _)).2.1
  have SK:SqL K H1 r1 ((q0::qs).map V.ref):=SqL.of h1
  refine⟨_,rfl,r1,_,_,_,rfl,rfl,SK,at0,?_⟩
  refine⟨_,rfl,l,_,rfl,.inl (S1.seq SL),_,rfl,by omega,(by rw[List.length_map,lps];omega),fun acc hacc=>?_⟩
  have eN:(((ps.map V.ref).length:Nat):Int).toNat=2^c:=by rw[Int.toNat_natCast,List.length_map,lps]
  rw[eN]
  refine Z3s (n:=2^c) (fr:=[some (.int fl),some (.ref q0)]) (fun i ys H'=>Same H1 H'/\H' acc=some (.lst ys)/\∃ rs:List Addr,ys=rs.map V.ref/\Mks H' rs ((List.range i).map fun s=>mkS w0 k0 fl s)) (t64 p6)
   ⟨Z0f hacc _,Z0c,[],rfl,.nil⟩ ?_ ?_
  ·rintro i ys H2 N hi hy ⟨S2,a2,rs,rfl,M2⟩ kN
   have SQ:SqT K H2 q0 [.int w0,.int k0]:=SqT.of (S2 _ _ hq0)
   have e0:(0:Int)+(i:Int)=(i:Int):=Int.zero_add _
   refine⟨_,rfl,q0,_,_,_,rfl,rfl,SQ,rfl,_,rfl,q0,_,_,_,rfl,rfl,SQ,rfl,_,rfl,_,_,rfl,rfl,w0&&&i,(by rw[e0];exact Z3z _ _),_,_,rfl,rfl,.inl ⟨by decide,by decide⟩,_,_,rfl,rfl,_,_,rfl,rfl,Z2e,_,rfl,_,rfl,t3,fun t ht=>?_⟩
   have s3:=Z0f ht (.tup [.int (((k0:Int)-2*((pc (w0&&&i):Nat):Int))%4),.int fl,.int (0+(i:Int))])
   refine kN _ _ (s3 _ _ a2) ⟨Z0s (S2.trans s3) hacc,Z0c,rs++[t],by rw[List.map_append];rfl,?_⟩
   rw[List.range_succ,List.map_append]
   refine K62T.Mks.upd (Paired.snoc (M2.same s3) ?_) (s3 _ _ a2)
   rw[Z0c]
   show some (HO.tup [.int (((k0:Int)-2*((pc (w0&&&i):Nat):Int))%4),.int fl,.int (0+(i:Int))])=some (HO.tup [.int (((k0+2*pc (w0&&&i))%4:Nat):Int),.int fl,.int (i:Int)])
   rw[e0,show ((k0:Int)-2*((pc (w0&&&i):Nat):Int))%4=(((k0+2*pc (w0&&&i))%4:Nat):Int) by omega]
  rintro ys H2 hy ⟨S2,a2,rs,rfl,M2⟩
  have lr:=M2.length
  rw[List.length_map,List.length_range] at lr
  have SM:SqL K H2 acc (rs.map V.ref):=SqL.of a2
  refine⟨_,rfl,acc,rfl,⟨_,SM⟩,fun acc2 hacc2=>?_⟩
  refine X1b (K:=K) (l:=acc) (xs:=rs.map V.ref) (fr:=[some (.ref r1)]) (fun i ys H'=>Same H2 H'/\H' acc2=some (.lst ys)/\∃ (us:List Addr) (ms:List Mk),ys=us.map V.ref/\Mks H' us ms/\ms.length<=i/\(∀ m∈ms,M82.Ok c m/\Kp c f m)/\(∀ s,s<i->(∀ t∈(w0,k0)::W,Fit (mkS w0 k0 fl s) t)->mkS w0 k0 fl s∈ms))
   (by rw[List.length_map,lr];exact t64 p6) ⟨Z0f hacc2 _,Z0c,[],[],rfl,.nil,Nat.le_refl _,fun _ z=>(nomatch z),fun _ z=>absurd z (Nat.not_lt_zero _)⟩ (fun i ys H' e=>e.1.seq SM) ?_ (fun hm z=>?_) ?_
  ·rintro i x ys H3 N hx hy ⟨S3,a3,us,ms,rfl,M3,l3,o3,all3⟩ kN
   rw[List.getElem?_map] at hx
   obtain⟨p,hp,rfl⟩:=Option.map_eq_some_iff.mp hx
   have ilt:i<2^c:=by rw[<-lr];exact(List.getElem?_eq_some_iff.mp hp).1
   obtain⟨m,hm,pm⟩:=M2.get hp
   rw[List.getElem?_map,List.getElem?_range ilt] at hm
   cases hm
   have pm3:=S3 _ _ pm
   refine⟨_,rfl,_,rfl,p,r1,_,(w0,k0)::W,mkS w0 k0 fl i,rfl,SqT.of pm3,(S2.trans S3).seq SK,(P1.same S2).same S3,?_⟩
   refine⟨_,rfl,?_⟩
   refine kN _ _ (fun hb1=>?_) (fun hb0=>?_)
   ·have ft:=of_decide_eq_true hb1
    refine⟨_,rfl,a3,Z0s S3 hacc2,Z0c,us++[p],ms++[mkS w0 k0 fl i],by rw[List.map_append];rfl,K62T.Mks.upd (Paired.snoc M3 pm3) a3,by rw[List.length_append];simp;omega,fun m hm=>?_,fun s hs hf=>?_⟩
    ·rcases List.mem_append.mp hm with z | z
     ·exact o3 m z
     ·rw[List.mem_singleton.mp z]
      exact⟨⟨Nat.mod_lt _ (by decide),flc,ilt⟩,X7g SP oz flc rfl ft⟩
    ·by_cases q:s=i
     ·subst q
      exact List.mem_append_right _ (.head _)
     ·exact List.mem_append_left _ (all3 s (by omega) hf)
   ·have ft:=of_decide_eq_false hb0
    refine⟨S3,a3,us,ms,rfl,M3,by omega,o3,fun s hs hf=>?_⟩
    by_cases q:s=i
    ·subst q
     exact absurd hf ft
    ·exact all3 s (by omega) hf
  ·obtain⟨v,e,q⟩:=z
   exact⟨v,e,hm _ _ q⟩
  rintro ys H3 ⟨S3,a3,us,ms,rfl,M3,l3,o3,all3⟩
  rw[List.length_map,lr] at l3 all3
  refine kq acc2 H3 us ms ((S1.trans S2).free hacc2) ((S1.trans S2).trans S3) a3 M3 (Nat.le_trans l3 p6) o3 fun m om km e=>?_
  have ft:=X7u SP e km
  have f0:=ft (w0,k0) (.head _)
  have em:m=mkS w0 k0 fl m.2.2:=by
   have q4:=om.q
   unfold Fit at f0
   simp only at f0
   refine Prod.ext ?_ (Prod.ext e rfl)
   show m.1=(k0+2*pc (w0&&&m.2.2))%4
   omega
  have:=all3 m.2.2 om.s (by rw[<-em];exact ft)
  rw[<-em] at this
  exact this
end
end K62
namespace K62
open PySem PySem.Spec PyProof.Rows L2 Am Pc Ba
open M54 (Mk)
open M57 (In)
open K62T (T3 L3 Mks Z3z Z2p Z2e)
open M82 (Kp Nv)
structure Kep (c:Nat) (f:Nat->A5) (S:List Mk):Prop where
 ex:∃ R,M82.Kc c f R/\M53.Dm R S/\S.length=R.length
 rise:S.Pairwise (fun a b=>M53.ldm a<=M53.ldm b)
def spKeep (K:PySem.W.Frag):Sp:=fun vs H Q _=>∃ (l:Addr) (ps:List Addr) (f:Nat->A5) (c:Nat),vs=[.ref l]/\Bo K H l ps f c/\1<=c/\c<=6/\Okz c f/\Nv c f ∧
 ∀ (r:Addr) (H':Hp) (qs:List Addr) (S:List Mk),H r=none->Same H H'->H' r=some (.lst (qs.map V.ref))->Mks H' qs S->Kep c f S->Q (.ref r) H'
theorem ma:¬ (V.str "made"=V.str "apart"):=fun e=>absurd (V.str.inj e) (by decide +kernel)
section
variable {P:Program}{w:World}{K:PySem.W.Frag}{mg:Str->Option Value}{base:Heap}{k:Nat}{h:Heap}
theorem sc_keep:FnScope ["board","cells","rows","flips","mark"] ["board"] (Z0i (top 51)):=fS
theorem X4g (F:FunAt K "keepers" (top 51) .none)(X:K.In h)(G:h.Ns mainGlobals mg)(B:Bs mg)(c_cells_of:Cal P w K mg base k "cells_of" ["board"] (Z6l K))(c_keepers_with:Cal P w K mg base k "keepers_with" ["board","flips"] (spKW K))(c_made_of:Cal P w K mg base k "made_of" ["rows","mark","cells"] (K62T.Z8f K))(c_reduced:Cal P w K mg base k "reduced" ["rows","cells"] K62T.Z9h) :
  Cal P w K mg base (k+1) "keepers" ["board"] (spKeep K):=by
 have nd:=sc_keep.nd
 refine F.cal X G sc_keep (bnd1 fun _ _ _ _ _ _ _=>rfl) (fun vs H Q E h=>?_) (fun f cdv A outer s H vs Q E hr h=>?_)
 ·obtain⟨l,ps,f,c,rfl,_⟩:=h;rfl
 obtain⟨l,ps,f,c,rfl,BO,c1,c6,oz,nv,kq⟩:=h
 have SL:SqL K H l (ps.map V.ref):=SqL.of BO.lst
 have p6:=pow6 c6
 have lps:=BO.len
 refine⟨_,(@Z0e _ _ _ _ _ (@Z0r _ _ 1 _ _ _ _ nd rfl (Or.inl rfl) (Z0k c_cells_of hr rfl (Z0a (pv 0) Z0d)) rfl (.inl rfl))
  (@Z0e _ _ _ _ _ (@Z0r _ _ 2 _ _ _ _ nd rfl (Or.inl rfl) (@Z3f _ _ _ _ Z0d) rfl (.inl rfl))
  (@Z0e _ _ _ _ _ (Z1p PassesOwn.never rfl (Z0w rfl B.range (Z0a (Z0q Z0v rfl B.len PySem.boot_len (Z0a (pv 0) Z0d)) Z0d)) (Z0m (i:=3) nd rfl (Or.inl rfl))
   (@Z0g _ _ _ (Z1p PassesOwn.never rfl (Z1d (Z0k c_keepers_with hr rfl (Z0a (pv 0) (Z0a (pv 3) Z0d)))) (Z0m (i:=4) nd rfl (Or.inl rfl))
    (@Z0g _ _ _ (Z0y (Z0o Z1u (Z0n Z0l (Z0k c_made_of hr rfl (Z0a (pv 2) (Z0a (pv 4) (Z0a (pv 1) Z0d)))) Z0b (fun _ _=>rfl)) Z2b (nomark _))
     (@Z0g _ _ _ (Z3i (Y1d PySem.F.plainAttrs_list PySem.F.slot_list_append PySem.F.type_list_append Z2m (pv 2) (Z0a (pv 4) Z0d))))
     Z0p)))))
  (@Z0g _ _ _ (Z0j (Z0k c_reduced hr rfl (Z0a (pv 2) (Z0a (pv 1) Z0d)))))))),?_⟩
 try dsimp only[cxK]
 refine⟨_,rfl,l,_,c,rfl,SL,(by rw[List.length_map,lps]),c6,?_⟩
 refine⟨Nat.zero_le _,fun lr hlr=>?_⟩
 have s0:=Z0f hlr (.lst [])
 have eN:(((ps.map V.ref).length:Nat):Int).toNat=2^c:=by rw[Int.toNat_natCast,List.length_map,lps]
 refine⟨_,rfl,l,_,rfl,.inl (s0.seq SL),_,rfl,by omega,(by rw[List.length_map,lps];omega),?_⟩
 rw[eN]
 refine Z1i (n:=2^c) (fun i σ H'=>Same H H'/\∃ (rs:List Addr) (R:List Mk) (v3 v4:Option V),H' lr=some (.lst (rs.map V.ref))/\Mks H' rs R/\M82.Ks c f R/\(∀ m,M82.Ok c m->Kp c f m->m.2.1<i->In R m)/\σ=[some (.ref l),some (.int c),some (.ref lr),v3,v4])
  ⟨s0,[],[],_,_,Z0c,.nil,M82.Ks.nil,fun _ _ _ z=>absurd z (Nat.not_lt_zero _),rfl⟩ ?_ ?_
 ·rintro i σ H1 hi ⟨S1,rs,R,v3,v4,a1,M1,ks,all1,rfl⟩
  have e0:(0:Int)+(i:Int)=(i:Int):=Int.zero_add _
  refine⟨_,rfl,_,rfl,l,ps,f,c,i,(by rw[e0];rfl),BO.same S1,c6,hi,oz,nv,fun r H2 qs ms fr S2 h2 M2 l64 o2 all2=>?_⟩
  have nlr:lr≠r:=Z1g a1 fr
  refine⟨r,rfl,⟨_,SqL.of h2⟩,Z2o (K:=K) (a:=r) (xs:=qs.map V.ref) (fun j σ H'=>Same H H'/\H' r=some (.lst (qs.map V.ref))/\Mks H' qs ms/\∃ (rs:List Addr) (R:List Mk) (v4:Option V),H' lr=some (.lst (rs.map V.ref))/\Mks H' rs R/\M82.Ks c f R/\(∀ m,M82.Ok c m->Kp c f m->m.2.1<i->In R m)/\(∀ m∈ms.take j,In R m)/\σ=[some (.ref l),some (.int c),some (.ref lr),some (.int (0+(i:Int))),v4])
   ⟨S1.trans S2,h2,M2,rs,R,_,S2 _ _ a1,M1.same S2,ks,all1,(by rw[List.take_zero];exact fun _ z=>(nomatch z)),rfl⟩ (fun j σ H' _ e=>SqL.of e.2.1) ?_ ?_⟩
  ·rintro j x σ H3 hx ⟨S3,h3,M3,rs,R,v4,a3,R3,ks,all1,tk,rfl⟩
   rw[List.getElem?_map] at hx
   obtain⟨p,hp,rfl⟩:=Option.map_eq_some_iff.mp hx
   obtain⟨m,hm,pm⟩:=M3.get hp
   obtain⟨om,km⟩:=o2 m (List.mem_of_getElem? hm)
   have T:=ks.tb c6 nv
   refine⟨_,rfl,_,rfl,_,rfl,lr,p,rs,R,m,c,rfl,SqL.of a3,R3,pm,c6,M82.len12 T,(fun m hm=>⟨(ks.ok m hm).1.q,(ks.ok m hm).1.f,(ks.ok m hm).1.s⟩),⟨om.q,om.f,om.s⟩,fun t H4 S4 MT=>?_⟩
   have a4:=S4 _ _ a3
   have tk1:∀ R',(∀ g,In R g->In R' g)->In R' m->∀ g∈ms.take (j+1),In R' g:=fun R' up hin g hg=>by
    rw[List.take_add_one,hm,Option.toList_some] at hg
    rcases List.mem_append.mp hg with z | z
    ·exact up g (tk g z)
    ·rw[List.mem_singleton.mp z];exact hin
   rcases MT with ⟨kk,xx,ll,_,ht,hll,kk4,ee⟩ | ⟨pp,o,ht,hpp,oo,oev,com1,com0⟩
   ·have hin:In R m:=M82.X4y nv ks om km kk4 ee
    refine⟨t,_,_,_,rfl,rfl,SqT.of ht,at0,rfl,_,rfl,decI (fun z=>absurd z ma) (fun _=>?_)⟩
    exact⟨S3.trans S4,S4 _ _ h3,M3.same S4,rs,R,_,a4,R3.same S4,ks,all1,tk1 R (fun _ z=>z) hin,rfl⟩
   ·have ks':M82.Ks c f (R++[m]):=ks.snoc om km com1 com0
    have N':=(ks'.tb c6 nv).nice
    have up:∀ g,In R g->In (R++[m]) g:=fun g hg=>M82.X5j N' hg
    have hin:In (R++[m]) m:=M53.Z5f N' (List.mem_append_right _ (.head _))
    refine⟨t,_,_,_,rfl,rfl,SqT.of ht,at0,rfl,_,rfl,decI (fun _=>?_) (fun z=>absurd rfl z)⟩
    have lR:=M82.len12 T
    refine⟨_,rfl,.inl ⟨rfl,_,SqL.of a4⟩,_,rfl,lr,_,_,rfl,rfl,a4,(by rw[List.length_map,R3.length];exact Nat.lt_of_le_of_lt lR (by decide)),?_⟩
    refine⟨Z0s (S3.trans S4) hlr,?_,K62T.Mks.upd (M3.same S4) a4,rs++[p],R++[m],_,(by rw[Z0c,List.map_append];rfl),K62T.Mks.upd (Paired.snoc (R3.same S4) (S4 _ _ pm)) a4,ks',fun g og kg z=>up g (all1 g og kg z),tk1 _ up hin,rfl⟩
    rw[Z0x (Ne.symm nlr)]
    exact S4 _ _ h3
  ·rintro σ H3 ⟨S3,h3,M3,rs,R,v4,a3,R3,ks,all1,tk,rfl⟩
   rw[List.length_map,M2.length,List.take_length] at tk
   refine⟨S3,rs,R,_,_,a3,R3,ks,fun m om km z=>?_,rfl⟩
   by_cases q:m.2.1=i
   ·exact tk m (all2 m om km q)
   ·exact all1 m om km (by omega)
 ·rintro σ H1 ⟨S1,rs,R,v3,v4,a1,M1,ks,all1,rfl⟩
  have T:=ks.tb c6 nv
  refine⟨_,rfl,_,rfl,lr,rs,R,c,rfl,⟨a1,M1,(fun m hm=>⟨(ks.ok m hm).1.q,(ks.ok m hm).1.f,(ks.ok m hm).1.s⟩),T,M82.len12 T⟩,c1,c6,fun r H2 qs S S2 fr h2 M2 DM ll pw=>?_⟩
  exact kq r H2 qs S (S1.free fr) (S1.trans S2) h2 M2 ⟨⟨R,⟨ks,fun m om km=>all1 m om km om.f⟩,DM,ll⟩,pw⟩
end
end K62
namespace L2
open PySem PySem.Spec PyProof.Rows
end L2
namespace L2
open PySem PySem.Spec PyProof.Rows
section
variable {prog:Program}{w:World}{A:Around}{E:Value->Shared->Prop}{s:Shared}{l:Addr}
theorem Y2f {vs:Array Value}{Q:Value->Shared->Prop}(ht:s.heap.IsTuple l vs)
  (h:∀ hp:Heap,hp=s.heap.push { cls:=.type "tuple_iterator",data:=.fields #[.ref l,.int 0 0] }->hp.IsTupleIter s.heap.objs.size l 0/\hp.IsTuple l vs->(∀ b∈[s.heap.objs.size,l],b<hp.objs.size)->l≠s.heap.objs.size →
   (∀ h':Heap,(∀ b o,b ∉ [s.heap.objs.size]->hp.get? b=some o->h'.get? b=some o)->∀ b o,s.heap.get? b=some o->h'.get? b=some o)->Q (.ref s.heap.objs.size) { s with heap:=hp }) :
  wpAny (model prog w) A (pyIter (.ref l)) Q E s:=by
 have low:l<s.heap.objs.size:=by obtain⟨_,e,_⟩:=ht;exact Heap.lt_size e
 refine wpAny_pyIter_tuple ht (h _ rfl ⟨⟨_,Heap.get?_push_size _ rfl,rfl,rfl⟩,ht.push _⟩ (fun b hb=>?_) (Nat.ne_of_lt low) fun h' hk b o e=>?_)
 ·rw[Heap.size_push]
  simp only[List.mem_cons,List.not_mem_nil,or_false] at hb
  rcases hb with rfl | rfl
  ·exact Nat.lt_succ_self _
  ·exact Nat.lt_succ_of_lt low
 ·have:=Heap.lt_size e
  exact hk b o (by simp only[List.mem_cons,List.not_mem_nil,or_false];exact Nat.ne_of_lt this) (Heap.get?_push_of_some _ e)
theorem X4v {xs:Array (Int × Tok)}{Q:Value->Shared->Prop}(hh:A.handled=none)(ht:s.heap.IsTuple l (intItems xs))(hne:0<xs.size)
  (h:∀ (v:Value) (h':Heap) (tk:Nat),(intItems xs)[argBest (fun i j=>decide (PySem.numAt xs i<PySem.numAt xs j)) (xs.size-1)]?=some v->(∀ b o,s.heap.get? b=some o->h'.get? b=some o)->Q v { s with heap:=h',toks:=tk }) :
  wpAny (model prog w) A (call (.builtin "min") [.ref l]) Q E s:=by
 refine call_min_walk (Y2f ht fun hp e st hf hl old=>?_)
 have z:(intItems xs).size=xs.size:=by simp[intItems]
 refine⟨_,_,_,_,_,_,_,rfl,Walks.tuple (A:=A.in1) hh _ l hl (intItems xs),st,hf,by rw[z];exact hne,CmpOf.ints_lt (PySem.numAt xs) (fun _ _=>intItems_at),fun v h' tk hP hk=>?_⟩
 rw[z] at hP
 exact h v h' tk hP (old h' hk)
theorem X4x {xs:Array (Int × Tok)}{Q:Value->Shared->Prop}(hh:A.handled=none)(ht:s.heap.IsTuple l (intItems xs))(hne:0<xs.size)
  (h:∀ (v:Value) (h':Heap) (tk:Nat),(intItems xs)[argBest (fun i j=>decide (PySem.numAt xs i>PySem.numAt xs j)) (xs.size-1)]?=some v->(∀ b o,s.heap.get? b=some o->h'.get? b=some o)->Q v { s with heap:=h',toks:=tk }) :
  wpAny (model prog w) A (call (.builtin "max") [.ref l]) Q E s:=by
 refine call_max_walk (Y2f ht fun hp e st hf hl old=>?_)
 have z:(intItems xs).size=xs.size:=by simp[intItems]
 refine⟨_,_,_,_,_,_,_,rfl,Walks.tuple (A:=A.in1) hh _ l hl (intItems xs),st,hf,by rw[z];exact hne,CmpOf.ints_gt (PySem.numAt xs) (fun _ _=>intItems_at),fun v h' tk hP hk=>?_⟩
 rw[z] at hP
 exact h v h' tk hP (old h' hk)
end
section
variable {X:Cx}
theorem Y3u {its:List Value}{ns:List Int}(rv:Vals (ns.map V.int) its):∃ xs:Array (Int × Tok),its.toArray=intItems xs/\ns=xs.toList.map (·.1):=by
 have hi:=Z1w rv
 obtain⟨xs,e⟩:=hi.allInts.items
 exact⟨xs,e,by rw[<-hi.numsOf,<-nums_intItems,<-e]⟩
theorem Y8s (hc:X.calm=true):CallR X (.builtin "min") (fun xs H Q=>∃ (p:Addr) (ns:List Int),xs=[.ref p]/\SqT X.K H p (ns.map V.int)/\0<ns.length/\∀ M,M∈ns->(∀ a,a∈ns->M<=a)->Q (.int M) H):=by
 intro pins s σ H xs us Q I r h
 obtain⟨p,ns,rfl,hq,hn,q⟩:=h
 obtain⟨u,rfl,ru⟩:=r.one
 cases ru
 obtain⟨its,rv,pl,hz⟩:=I.tuple hq
 obtain⟨xs,e,hns⟩:=Y3u rv
 have hsz:0<xs.size:=by rw[hns,List.length_map,Array.length_toList] at hn;exact hn
 rw[e] at pl
 refine X4v (show X.A.handled=none from I.ok.hd hc) pl hsz fun v h' tk hv hk=>?_
 obtain⟨t,rfl⟩:=intItems_at hv
 obtain⟨h1,h2⟩:=argBest_lt (PySem.numAt xs) (xs.size-1)
 refine⟨.int (PySem.numAt xs (argBest (fun i j=>decide (PySem.numAt xs i<PySem.numAt xs j)) (xs.size-1))),H,I.kept (t':=tk) hk,⟨_,rfl⟩,q _ ?_ fun a ha=>?_⟩
 ·rw[hns,numAt_eq];exact getD_mem (by rw[List.length_map,Array.length_toList];omega)
 ·rw[hns] at ha
  obtain⟨j,hj,rfl⟩:=mem_getD ha
  rw[List.length_map,Array.length_toList] at hj
  rw[<-numAt_eq];exact h2 j (by omega)
theorem Y8u (hc:X.calm=true):CallR X (.builtin "max") (fun xs H Q=>∃ (p:Addr) (ns:List Int),xs=[.ref p]/\SqT X.K H p (ns.map V.int)/\0<ns.length/\∀ M,M∈ns->(∀ a,a∈ns->a<=M)->Q (.int M) H):=by
 intro pins s σ H xs us Q I r h
 obtain⟨p,ns,rfl,hq,hn,q⟩:=h
 obtain⟨u,rfl,ru⟩:=r.one
 cases ru
 obtain⟨its,rv,pl,hz⟩:=I.tuple hq
 obtain⟨xs,e,hns⟩:=Y3u rv
 have hsz:0<xs.size:=by rw[hns,List.length_map,Array.length_toList] at hn;exact hn
 rw[e] at pl
 refine X4x (show X.A.handled=none from I.ok.hd hc) pl hsz fun v h' tk hv hk=>?_
 obtain⟨t,rfl⟩:=intItems_at hv
 obtain⟨h1,h2⟩:=argBest_gt (PySem.numAt xs) (xs.size-1)
 refine⟨.int (PySem.numAt xs (argBest (fun i j=>decide (PySem.numAt xs i>PySem.numAt xs j)) (xs.size-1))),H,I.kept (t':=tk) hk,⟨_,rfl⟩,q _ ?_ fun a ha=>?_⟩
 ·rw[hns,numAt_eq];exact getD_mem (by rw[List.length_map,Array.length_toList];omega)
 ·rw[hns] at ha
  obtain⟨j,hj,rfl⟩:=mem_getD ha
  rw[List.length_map,Array.length_toList] at hj
  rw[<-numAt_eq];exact h2 j (by omega)
end
end L2
namespace L2
open PySem PySem.Spec PyProof.Rows
section
variable {prog:Program}{w:World}{A:Around}{E:Value->Shared->Prop}{s:Shared}{l:Addr}
theorem X5o {us:List Value}{R:List Value->Shared->Prop}(ht:s.heap.IsList l us.toArray)(hn:us.length<=sizeLine)
  (h:∀ h':Heap,(∀ b o,s.heap.get? b=some o->h'.get? b=some o)->s.heap.objs.size<h'.objs.size->R us { s with heap:=h' }):wpAny (model prog w) A (collect (.ref l)) R E s:=by
 obtain⟨o,ho,hc,n,hd⟩:=ht
 have low:=Heap.lt_size ho
 have up:∀ b o,s.heap.get? b=some o->(s.heap.push (seqObj "list" #[] 0)).get? b=some o:=fun b o e=>Heap.get?_push_of_some _ e
 unfold collect
 refine wpAny_bind (wpAny_runValue (codeAny_builtin entry_proto_collect' ?_))
 rw[Around.under_plainId PySem.F.plain_proto_collect _]
 show wpAny _ A.in1 (newList [] >>= fun a=>again (.builtin "list.__iadd__" ⟨[a,.ref l],[]⟩)) _ _ s
 refine wpAny_bind (wpAny_newList (wpAny_pure ⟨plainId_quiet PySem.F.plain_list_iadd _,codeAny_builtin entry_list_iadd' ?_⟩))
 rw[Around.under_plainId PySem.F.plain_list_iadd _]
 show wpAny _ _ (Builtin.List.listExtendWith (.ref s.heap.objs.size) (.ref l) (.ref s.heap.objs.size)) _ _ { s with heap:=s.heap.push (seqObj "list" #[] 0) }
 unfold Builtin.List.listExtendWith
 refine wpAny_bind (wpAny_typeOf (T:="list") ⟨o,up _ _ ho,hc⟩ ?_)
 rw[if_pos (by rw[show (Value.type "list" == Value.type "list")=true from rfl,Bool.or_true,Bool.true_or])]
 refine wpAny_bind (listItems_at (up _ _ ho) hd (wpAny_bind (listItems_at (xs:=#[]) (n:=0) (Heap.get?_push_size _ rfl) rfl ?_)))
 rw[if_neg (by simp)]
 refine wpAny_bind (listUpdate_at (xs:=#[]) (n:=0) (Heap.get?_push_size _ rfl) rfl (wpAny_pure ?_) (Nat.zero_le _) (by simp;omega))
 refine wpAny_bind (wpAny_load (get?_update_seq (Heap.get?_push_size _ rfl) _) ?_)
 show wpAny _ _ (pure ((#[]:Array Value)++us.toArray).toList) _ _ _
 rw[show ((#[]:Array Value)++us.toArray).toList=us by simp]
 refine wpAny_pure (h _ (fun b q e=>?_) ?_)
 ·have:=Heap.lt_size e
  exact(Heap.get?_update_ne _ b s.heap.objs.size _ (Nat.ne_of_lt this)).trans (up b q e)
 ·show _<((s.heap.push (seqObj "list" #[] 0)).update _ _).objs.size
  rw[Heap.size_update,Heap.size_push]
  exact Nat.lt_succ_self _
end
section
variable {X:Cx}
theorem Y0f:CallR X (.builtin "sorted") (fun xs H Q=>∃ (p:Addr) (ns:List Int),xs=[.ref p]/\SqL X.K H p (ns.map V.int)/\ns.length<64 ∧
  ∀ (l:Addr) (ns':List Int),H l=none->ns'.Perm ns->ns'.Pairwise (·<=·)->Q (.ref l) (upd H l (.lst (ns'.map V.int)))):=by
 intro pins s σ H xs us Q I r h
 obtain⟨p,ns,rfl,hq,hn,q⟩:=h
 obtain⟨u,rfl,rx⟩:=vals1 r
 cases rx
 obtain⟨its,rv,pl,hz⟩:=I.list hq
 have hI:=Z1w rv
 have hil:its.length=ns.length:=by have:=rv.length;rw[List.length_map] at this;exact this.symm
 have l64:(64:Nat)<=sizeLine:=by decide
 refine Calls.call_function_entry kind_sorted plain_sorted entry_sorted (args_sorted1 _) ?_
 unfold Builtin.«sorted»
 refine wpAny_bind (m:=checkCount "sorted" 1 1 _) (wpAny_pure ?_)
 refine wpAny_bind (X5o (A:=X.A.in1) pl.isList (by omega) fun h' hk' hlt'=>?_)
 have hsz:=Nat.le_of_lt hlt'
 refine wpAny_bind (wpAny_newList ?_ (by omega))
 have hoL:(h'.push (seqObj "list" its.toArray 0)).get? h'.objs.size=some (seqObj "list" its.toArray 0):=Heap.get?_push_size _ rfl
 refine wpAny_bind (wpAny_holding (wpAny_call_entry slot_list_sort ⟨_,hoL,rfl⟩ entry_list_sort (list_sort_tree hoL hI (by omega) fun out ns' a1 a2 a3=>⟨_,rfl,?_⟩) (args_list_sort _)))
 refine wpAny_pure ⟨_,rfl,?_⟩
 obtain⟨e,he⟩:=sortedHeap_at (out:=out) hoL
 have kp:∀ b o,s.heap.get? b=some o->(sortedHeap (h'.push (seqObj "list" its.toArray 0)) h'.objs.size its out).get? b=some o:=fun b o x=>by
  have lt:=Heap.lt_size (hk' b o x)
  rw[sortedHeap_old (Nat.ne_of_lt lt) (by rw[size_push'];exact Nat.lt_succ_of_lt lt)]
  exact Heap.get?_push_of_some _ (hk' b o x)
 have hlo:=a2.length_eq
 have hto:(out.toList).toArray=out:=Array.toArray_toList
 exact⟨.ref h'.objs.size,_,I.laid (t':=s.toks) kp hsz (show ObjOk X.prog X.w _ _ _ (.lst (ns'.map V.int)) from ⟨by rw[List.length_map];omega,out.toList,e,Z4v a1,by rw[hto];exact he⟩),rfl,q _ ns' (I.hok.fresh hsz) a2 a3⟩
end
end L2
namespace L2
open PySem PySem.Spec PyProof.Rows
theorem Y8r {X:Cx}(hc:X.calm=true):CallR X (.type "set") (fun xs H Q=>∃ (p:Addr) (ns:List Int),xs=[.ref p]/\SqL X.K H p (ns.map V.int)/\ns.length<64/\∀ (l:Addr) (S:Int->Bool),H l=none->Q (.ref l) (upd H l (.set S (unlike ns)))):=by
 intro pins s σ H xs us Q I r h
 obtain⟨p,ns,rfl,hS,h64,q⟩:=h
 obtain⟨u,rfl,rx⟩:=vals1 r
 cases rx
 obtain⟨its,rv,pl,_⟩:=I.list hS
 have el:its.toArray.size=ns.length:=by rw[List.size_toArray,<-rv.length,List.length_map]
 refine call_set_list (I.ok.hd hc) pl.isList (ns:=ns) (by simpa using Z6z rv) (by unfold scanBound;omega) fun h' tk hs hk=>?_
 rw[el] at hs
 exact⟨.ref s.heap.objs.size,_,I.laid (o:=.set _ (unlike ns)) (t':=tk) (fun b o e=>hk b o (Heap.lt_size e) e) (Nat.le_refl _) hs,rfl,q _ _ (I.hok.fresh (Nat.le_refl _))⟩
end L2
namespace L2
open PySem PySem.Spec PyProof.Rows
section
variable {X:Cx}
end
end L2
namespace L2
open PySem PySem.Spec PyProof.Rows
section
variable {X:Cx}{pins:List (Addr × Obj)}{σ:St}{H:Hp}{s:Shared}
end
end L2
namespace L2
open PySem PySem.Spec PyProof.Rows
def ownV (v:V):Prop:=flatV v=true∨∃ p,v=.ref p
theorem Y3y {A:Around}{s:Shared}{v:V}{u w:Value}(o:ownV v)(r1:RelV v u)(r2:RelV v w):SeqAt.EqAt A s u w true:=by
 rcases o with o | ⟨p,rfl⟩
 ·cases v with
  | int i =>
   obtain⟨t,rfl⟩:=r1
   obtain⟨t',rfl⟩:=r2
   have:=SeqAt.EqAt.int_int (A:=A) (s:=s) i t i t'
   simpa using this
  | str x =>
   obtain⟨t,rfl⟩:=r1
   obtain⟨t',rfl⟩:=r2
   have:=SeqAt.EqAt.str_str (A:=A) (s:=s) x t x t'
   simpa using this
  | bl b=>cases r1;cases r2;exact SeqAt.EqAt.same _
  | non=>cases r1;cases r2;exact SeqAt.EqAt.same _
  | _=>cases o
 ·cases r1;cases r2;exact SeqAt.EqAt.same _
def rEqOwn (K:PySem.W.Frag):R2:=fun x y H Q=>∃ (a b:Addr) (xs:List V),x=.ref a/\y=.ref b/\SqL K H a xs/\SqL K H b xs/\(∀ v∈xs,ownV v)/\Q (.bl true) H
theorem Y9z {X:Cx}(hu:X.A.units+64<cLine):OpR X (compareOp .Eq) (rEqOwn X.K):=by
 intro pins s σ H x y v u Q I rx ry h
 obtain⟨a,b,xs,rfl,rfl,h1,h2,ow,q⟩:=h
 cases rx;cases ry
 obtain⟨its,rv,pl,_⟩:=I.list h1
 obtain⟨its2,rv2,pl2,_⟩:=I.list h2
 have l1:=rv.length
 have l2:=rv2.length
 have rc:=SeqAt.RcAt.lists (A:=X.A) (e:=fun _=>true) pl.isList pl2.isList (by rw[List.size_toArray,List.size_toArray,<-l1,<-l2]) (by omega) fun j j1 j2=>by
  have jx:j<xs.length:=by rw[List.size_toArray] at j1;omega
  obtain⟨u1,e1,r1⟩:=rv.get (List.getElem?_eq_getElem jx)
  obtain⟨u2,e2,r2⟩:=rv2.get (List.getElem?_eq_getElem jx)
  have q1:its.toArray[j]=u1:=by
   have:=(List.getElem?_eq_some_iff.mp e1).2
   simpa using this
  have q2:its2.toArray[j]=u2:=by
   have:=(List.getElem?_eq_some_iff.mp e2).2
   simpa using this
  rw[q1,q2]
  exact Y3y (ow _ (List.getElem_mem jx)) r1 r2
 have al:((List.range its.toArray.size).all fun _=>true)=true:=by simp
 rw[al] at rc
 exact rc X.prog X.w _ _ ⟨.bl true,H,I,rfl,q⟩
end L2
set_option maxHeartbeats 1000000
namespace L2
open PySem PySem.Spec PyProof.Rows
def rNeOwn (K:PySem.W.Frag):R2:=fun x y H Q=>∃ (a b:Addr) (xs:List V),x=.ref a/\y=.ref b/\SqL K H a xs/\SqL K H b xs/\(∀ v∈xs,ownV v)/\Q (.bl false) H
theorem Y9y {X:Cx}(hu:X.A.units+64<cLine):OpR X (compareOp .NotEq) (rNeOwn X.K):=by
 intro pins s σ H x y v u Q I rx ry h
 obtain⟨a,b,xs,rfl,rfl,h1,h2,ow,q⟩:=h
 cases rx;cases ry
 obtain⟨its,rv,pl,_⟩:=I.list h1
 obtain⟨its2,rv2,pl2,_⟩:=I.list h2
 have l1:=rv.length
 have l2:=rv2.length
 have rc:=SeqAt.RcNeAt.lists (A:=X.A) (e:=fun _=>true) pl.isList pl2.isList (by rw[List.size_toArray,List.size_toArray,<-l1,<-l2]) (by omega) fun j j1 j2=>by
  have jx:j<xs.length:=by rw[List.size_toArray] at j1;omega
  obtain⟨u1,e1,r1⟩:=rv.get (List.getElem?_eq_getElem jx)
  obtain⟨u2,e2,r2⟩:=rv2.get (List.getElem?_eq_getElem jx)
  have q1:its.toArray[j]=u1:=by
   have:=(List.getElem?_eq_some_iff.mp e1).2
   simpa using this
  have q2:its2.toArray[j]=u2:=by
   have:=(List.getElem?_eq_some_iff.mp e2).2
   simpa using this
  rw[q1,q2]
  exact Y3y (ow _ (List.getElem_mem jx)) r1 r2
 have al:((List.range its.toArray.size).all fun _=>true)=true:=by simp
 rw[al] at rc
 exact rc X.prog X.w _ _ ⟨.bl false,H,I,rfl,q⟩
end L2
set_option maxHeartbeats 4000000
namespace K62
open PySem PySem.Spec PyProof.Rows L2 Am Pc Ba
open M54 (Mk bit Z1k Z4j)
open M53 (vec V6 IsLd ldm ev Z2a)
open K62T (T3 L3 Mks Z3z Z2p Z2e)
open M82 (Kp Nv)
structure Bv (H:Hp) (l:Addr) (ps:List Addr) (f:Nat->A5) (c:Nat):Prop where
 lst:H l=some (.lst (ps.map V.ref))
 len:ps.length=2^c
 vals:Vals5 H ps f
theorem Bv.same {H H':Hp}{l:Addr}{ps:List Addr}{f:Nat->A5}{c:Nat}(b:Bv H l ps f c)(s:Same H H'):Bv H' l ps f c:=⟨s _ _ b.lst,b.len,b.vals.same s⟩
theorem Bv.bo {K:PySem.W.Frag}{H:Hp}{l:Addr}{ps:List Addr}{f:Nat->A5}{c:Nat}(b:Bv H l ps f c):Bo K H l ps f c:=⟨b.lst,b.len,fun i p e=>At5.of (b.vals i p e)⟩
theorem Bv.at {H:Hp}{l:Addr}{ps:List Addr}{f:Nat->A5}{c i:Nat}(b:Bv H l ps f c)(hi:i<2^c):∃ p,ps[i]?=some p/\H p=some (tA (f i))/\atI (ps.map V.ref) (i:Int)=some (.ref p):=by
 have hl:i<ps.length:=by rw[b.len];exact hi
 refine⟨ps[i],List.getElem?_eq_getElem hl,b.vals i _ (List.getElem?_eq_getElem hl),Z4k (by rw[List.getElem?_map,List.getElem?_eq_getElem hl];rfl)⟩
def Y5u (K:PySem.W.Frag):Sp:=fun vs H Q _=>∃ (l p:Addr) (ps:List Addr) (f:Nat->A5) (c:Nat) (m:Mk),vs=[.ref l,.ref p]/\Bv H l ps f c/\c<=6/\SqT K H p (L3 m)/\m.2.1<2^c ∧
 ∀ (b:Bool) (H':Hp),Same H H'->(b=true ↔ Kp c f m)->Q (.bl b) H'
def spLead (K:PySem.W.Frag):Sp:=fun vs H Q _=>∃ (p:Addr) (m:Mk) (n:Nat),vs=[.ref p]/\SqT K H p (L3 m)/\V6 m/\IsLd (vec m) n/\Q (.int n) H
def Y2u:Sp:=fun vs H Q _=>∃ (p:Addr) (m:Mk) (c:Nat),vs=[.ref p,.int c]/\H p=some (T3 m)/\M82.Ok c m/\ev m/\c<=6/\∀ H',Same H H'->Q (.bl true) H'
theorem sz12 {n:Nat}(h:n<=12):Sz 9000 ((1:Int)*2^((n:Int)).toNat):=by
 rw[ipow]
 have:2^n<=4096:=Nat.le_trans (Nat.pow_le_pow_right (by decide) h) (by decide)
 exact(show Sz 13 ((2^n:Nat):Int) by unfold Sz;rw[Int.natAbs_natCast];omega).mono (by decide)
theorem pp (n:Nat):(0:Int)<1*2^((n:Int)).toNat:=by rw[Int.one_mul];exact Int.pow_pos (by decide)
theorem X5u (x n:Nat):(Int.fdiv (x:Int) (1*2^((n:Int)).toNat))%2=((bit x n:Nat):Int):=by
 rw[Int.fdiv_eq_ediv_of_nonneg _ (Int.le_of_lt (pp n)),ipow]
 unfold bit
 rfl
theorem X2z (m:Mk):(m.2.1:Int)+(m.2.2:Int)*64=((vec m:Nat):Int):=by unfold vec;omega
theorem ld12 {m:Mk}{n:Nat}(v:V6 m)(l:IsLd (vec m) n):n<12:=by
 have one:=l.one
 unfold vec at one
 rw[Z2a v.f] at one
 split at one
 ·omega
 ·by_cases c2:n-6<6
  ·omega
  ·rw[Z4j v.s (by omega)] at one;cases one
section
variable {P:Program}{w:World}{K:PySem.W.Frag}{mg:Str->Option Value}{base:Heap}{k:Nat}{h:Heap}
theorem sc_keeps:FnScope ["_law_board","_law_mark","_law_q","_law_f","_law_s","_law_word"] ["_law_board","_law_mark"] (Z0i (top 82)):=fS
theorem X0m (F:FunAt K "_law_keeps" (top 82) .none)(X:K.In h)(G:h.Ns mainGlobals mg)(B:Bs mg)(c__law_spin:Cal P w K mg base k "_law_spin" ["_law_one","_law_k"] spSpin)(c__law_bits:Cal P w K mg base k "_law_bits" ["_law_number"] spOnes):Cal P w K mg base (k+1) "_law_keeps" ["_law_board","_law_mark"] (Y5u K):=by
 have nd:=sc_keeps.nd
 refine F.cal X G sc_keeps (bnd2 fun _ _ _ _ _ _ _ _=>rfl) (fun vs H Q E h=>?_) (fun f cdv A outer s H vs Q E hr h=>?_)
 ·obtain⟨l,p,ps,f,c,m,rfl,_⟩:=h;rfl
 obtain⟨l,p,ps,f,c,m,rfl,BV,c6,SP,fc,kq⟩:=h
 have SL:SqL K H l (ps.map V.ref):=SqL.of BV.lst
 have p6:=pow6 c6
 have lps:=BV.len
 refine⟨_,(@Z0e _ _ _ _ _ (Z5t (pv 1) (Z4n rfl (Z1b (Z0m (i:=2) nd rfl (Or.inl rfl)) (Z1b (Z0m (i:=3) nd rfl (Or.inl rfl)) (Z1b (Z0m (i:=4) nd rfl (Or.inl rfl)) Z3j)))))
  (@Z0e _ _ _ _ _ (Z1p PassesOwn.never rfl (Z0w rfl B.range (Z0a (Z0q Z0v rfl B.len PySem.boot_len (Z0a (pv 0) Z0d)) Z0d)) (Z0m (i:=5) nd rfl (Or.inl rfl))
   (@Z0g _ _ _ (Z0y (Z0o (Y6p hr.units) (Z0n Z1a (pv 0) (Z0h Z3n (pv 5) (pv 3)) (fun _ _=>rfl)) (Z0k c__law_spin hr rfl (Z0a (Z0n Z1a (pv 0) (pv 5) (fun _ _=>rfl)) (Z0a (Z0h Z1c (Z0h Z2y Z0b (pv 2)) (Z0h Z2y Z0b (Z0k c__law_bits hr rfl (Z0a (Z0h Z1t (pv 5) (pv 4)) Z0d)))) Z0d))) (nomark _))
    (@Z0g _ _ _ (Z0j Z2w))
    Z0p)))
  (@Z0g _ _ _ (Z0j Z2w)))),?_⟩
 try dsimp only[cxK]
 refine⟨_,rfl,p,_,rfl,SP,rfl,_,_,rfl,_,_,rfl,_,_,rfl,rfl,?_⟩
 have eN:(((ps.map V.ref).length:Nat):Int).toNat=2^c:=by rw[Int.toNat_natCast,List.length_map,lps]
 refine⟨_,rfl,l,_,rfl,.inl SL,_,rfl,by omega,(by rw[List.length_map,lps];omega),?_⟩
 rw[eN]
 refine Z1i (n:=2^c) (fun i σ H'=>Same H H'/\(∀ w,w<i->f (w^^^m.2.1)=spin (f w) ((2*m.1+4*pc (w&&&m.2.2):Nat):Int))/\∃ v,σ=[some (.ref l),some (.ref p),some (.int m.1),some (.int m.2.1),some (.int m.2.2),v])
  ⟨Same.refl _,fun _ z=>absurd z (Nat.not_lt_zero _),_,rfl⟩ ?_ ?_
 ·rintro i σ H1 hi ⟨S1,lo,v,rfl⟩
  have e0:(0:Int)+(i:Int)=(i:Int):=Int.zero_add _
  have xl:i^^^m.2.1<2^c:=Nat.xor_lt_two_pow hi fc
  obtain⟨p1,_,q1,at1⟩:=(BV.same S1).at hi
  obtain⟨p2,_,q2,at2⟩:=(BV.same S1).at xl
  have SL1:=S1.seq SL
  refine⟨_,rfl,_,rfl,_,rfl,_,_,rfl,rfl,l,_,_,.ref p2,rfl,rfl,SL1,(by rw[e0,Z4p];exact at2),_,rfl,_,rfl,l,_,_,.ref p1,rfl,rfl,SL1,(by rw[e0];exact at1),_,rfl,_,_,rfl,rfl,.inl ⟨by decide,by decide⟩,_,rfl,_,rfl,_,_,rfl,rfl,i&&&m.2.2,(by rw[e0];exact Z3z _ _),_,_,rfl,rfl,.inl ⟨by decide,by decide⟩,_,_,rfl,rfl,p1,f i,_,rfl,q1,fun r H2 S2 hr2=>?_⟩
  have ek:(2:Int)*(m.1:Int)+4*((pc (i&&&m.2.2):Nat):Int)=((2*m.1+4*pc (i&&&m.2.2):Nat):Int):=by omega
  rw[ek] at hr2
  refine⟨p2,r,l5 (f (i^^^m.2.1)),l5 (spin (f i) ((2*m.1+4*pc (i&&&m.2.2):Nat):Int)),rfl,rfl,SqT.of (S2 _ _ q2),SqT.of hr2,_,rfl,blI (fun ne=>?_) (fun e=>?_)⟩
  ·refine kq false H2 (S1.trans S2) ⟨fun z=>(nomatch z),fun z=>?_⟩
   have:=z i hi
   rw[this] at ne
   simp at ne
  ·refine⟨S1.trans S2,fun w' hw'=>?_,_,rfl⟩
   by_cases q:w'=i
   ·subst q
    exact Y7r (by simpa using e)
   ·exact lo w' (by omega)
 ·rintro σ H1 ⟨S1,lo,v,rfl⟩
  exact kq true H1 S1 ⟨fun _=>lo,fun _=>rfl⟩
theorem sc_llead:FnScope ["_law_mark","_law_cell"] ["_law_mark"] (Z0i (top 83)):=fS
theorem X0k (F:FunAt K "_law_lead" (top 83) .none)(X:K.In h)(G:h.Ns mainGlobals mg)(B:Bs mg):Cal P w K mg base (k+1) "_law_lead" ["_law_mark"] (spLead K):=by
 have nd:=sc_llead.nd
 refine F.cal X G sc_llead (bnd1 fun _ _ _ _ _ _ _=>rfl) (fun vs H Q E' h=>?_) (fun f cdv A outer s H vs Q E' hr h=>?_)
 ·obtain⟨p,m,n,rfl,_⟩:=h;rfl
 obtain⟨p,m,n,rfl,S,v6,l,q⟩:=h
 refine⟨_,(@Z0e _ _ _ _ _ (Z1p PassesOwn.never rfl (Z0w rfl B.range (Z0a Z0b Z0d)) (Z0m (i:=1) nd rfl (Or.inl rfl))
   (@Z0g _ _ _ (Z0y (Z0o Z1u (Z0h Z0u (Z0h Z5e (Z0h Z1c (Z0n Z0l (pv 0) Z0b (fun _ _=>rfl)) (Z0h Z2y (Z0n Z0l (pv 0) Z0b (fun _ _=>rfl)) Z0b)) (Z0h Z1r Z0b (pv 1))) Z0b) Z0b (nomark _))
    (@Z0g _ _ _ (Z0j (pv 1)))
    Z0p)))
  (@Z0g _ _ _ (Z0j Z0b))),?_⟩
 try dsimp only[cxK]
 refine⟨_,rfl,by decide,by decide,Z1i (n:=12) (fun i σ H'=>H'=H/\(∀ j,j<i->bit (vec m) j=0)/\∃ v,σ=[some (.ref p),v]) ⟨rfl,fun j hj=>absurd hj (Nat.not_lt_zero _),none,rfl⟩ ?_ ?_⟩
 ·rintro i σ H1 hi ⟨rfl,lo,v,rfl⟩
  have e0:(0:Int)+(i:Int)=(i:Int):=Int.zero_add _
  have b2:=Z1k (vec m) i
  refine⟨_,rfl,p,_,_,_,rfl,rfl,S,rfl,_,rfl,p,_,_,_,rfl,rfl,S,rfl,_,_,rfl,rfl,.inr ⟨by decide,by decide⟩,_,_,rfl,rfl,_,rfl,_,_,rfl,rfl,⟨1,sz1,by omega,by omega⟩,_,_,rfl,rfl,⟨by rw[e0];exact Int.ne_of_gt (pp i),by rw[e0];exact sz12 (by omega)⟩,_,_,rfl,rfl,Z2p,rfl,_,rfl,eqI (fun z=>?_) (fun z=>?_)⟩
  ·rw[e0,X2z,X5u] at z
   have l2:IsLd (vec m) i:=⟨by omega,lo⟩
   refine⟨_,rfl,?_⟩
   rw[e0,l2.uniq l]
   exact q
  ·rw[e0,X2z,X5u] at z
   refine⟨rfl,fun j hj=>?_,_,rfl⟩
   by_cases e:j=i
   ·subst e;omega
   ·exact lo j (by omega)
 rintro σ H1 ⟨rfl,lo,v,rfl⟩
 exfalso
 have:=lo n (ld12 v6 l)
 rw[l.one] at this
 cases this
theorem sc_ismk:FnScope ["_law_found","_law_cells"] ["_law_found","_law_cells"] (Z0i (top 84)):=fS
theorem X4h (F:FunAt K "_law_is_mark" (top 84) .none)(X:K.In h)(G:h.Ns mainGlobals mg)(B:Bs mg)(c__law_whole:Cal P w K mg base k "_law_whole" ["_law_found"] Z3d)(c__law_bits:Cal P w K mg base k "_law_bits" ["_law_number"] spOnes):Cal P w K mg base (k+1) "_law_is_mark" ["_law_found","_law_cells"] Y2u:=by
 have nd:=sc_ismk.nd
 refine F.cal X G sc_ismk (bnd2 fun _ _ _ _ _ _ _ _=>rfl) (fun vs H Q E' h=>?_) (fun f cdv A outer s H vs Q E' hr h=>?_)
 ·obtain⟨p,m,c,rfl,_⟩:=h;rfl
 obtain⟨p,m,c,rfl,hp,om,evm,c6,kq⟩:=h
 have SP:SqT K H p (L3 m):=SqT.of hp
 refine⟨_,(@Z0e _ _ _ _ _ (Z0y (PW.pt (Z3y (Z2f (Z1l (Z0q Z1f rfl B.isinstance boot_isinstance (Z0a (pv 0) (Z0a (Z2x (v:=.ty "tuple") rfl B.tuple boot_tuple rfl) Z0d))))) (Z3y (Z0o Z5d (Z0q Z0v rfl B.len PySem.boot_len (Z0a (pv 0) Z0d)) Z0b (nomark _)) (Z3w (Z2f (Z1l (Z0q (Z2h rfl) rfl B.all boot_all (Z0a (Z3k rfl (LcOk.of (Nc:=["_law_part"]) (mp:=[none]) (by kernel_rfl)) (Y3c (pv 0)) (fun _ _ _ _=>(Z0m (i:=0) (show (["_law_part"]:List Str).Nodup by decide +kernel) rfl (Or.inl rfl))) (fun _ _ _ _=>(Z0k c__law_whole hr rfl (Z0a (pv 0) Z0d)))) Z0d))))))))
   (@Z0g _ _ _ (Z0j Z2w))
   Z0p)
  (@Z0e _ _ _ _ _ (Z0y (PW.pt (Z3y (Z0o Z6u (Z0q (Y8s rfl) rfl B.min boot_min (Z0a (pv 0) Z0d)) Z0b (nomark _)) (Z3y (Z0o Z9w (Z0n Z0l (pv 0) Z0b (fun _ _=>rfl)) Z0b (nomark _)) (Z3w (Z0o Y4o (Z0q (Y8u rfl) rfl B.max boot_max (Z0a (Z2k Z6m (pv 0) (Z2j Z0b) Z4d) Z0d)) (Z0h Z1r Z0b (pv 1)) (nomark _))))))
   (@Z0g _ _ _ (Z0j Z2w))
   Z0p)
  (@Z0g _ _ _ (Z0j (Z1n Z1u (Z0h Z0u (Z0h Z1c (Z0n Z0l (pv 0) Z0b (fun _ _=>rfl)) (Z0k c__law_bits hr rfl (Z0a (Z0h Z1t (Z0n Z0l (pv 0) Z0b (fun _ _=>rfl)) (Z0n Z0l (pv 0) Z0b (fun _ _=>rfl))) Z0d))) Z0b) Z0b (nomark _)))))),?_⟩
 try dsimp only[cxK]
 refine⟨_,rfl,_,_,_,true,rfl,TyOf.tup hp,K62T.Y3r K,_,rfl,iteF ⟨_,rfl,p,_,rfl,.inr SP,rfl,_,rfl,neI (fun z=>absurd rfl z) (fun _=>⟨_,rfl,p,rfl,⟨_,SP⟩,fun acc hacc=>?_⟩)⟩⟩
 have SI:SqT K H p ([(m.1:Int),(m.2.1:Int),(m.2.2:Int)].map V.int):=SP
 refine X5b (ns:=[(m.1:Int),(m.2.1:Int),(m.2.2:Int)]) (fr:=[]) (fun _=>.bl true) SI t3 hacc (fun i H2 N s2 kN=>⟨_,rfl,i,rfl,kN⟩) (fun H2 S2 a2=>?_)
 refine⟨acc,[true,true,true],rfl,SqL.of a2,_,rfl,iteF ?_⟩
 have S3:=S2.tup SI
 have q4:=om.q
 have of:=om.f
 have os:=om.s
 refine⟨_,rfl,p,[(m.1:Int),(m.2.1:Int),(m.2.2:Int)],rfl,S3,(show 0<3 by decide),fun M hM lo=>⟨_,_,rfl,rfl,_,rfl,decI (fun z=>?_) (fun _=>?_)⟩⟩
 ·simp only[List.mem_cons,List.not_mem_nil,or_false] at hM
  omega
 refine⟨_,rfl,p,_,_,_,rfl,rfl,S3,rfl,_,_,rfl,rfl,_,rfl,decI (fun z=>by omega) (fun _=>?_)⟩
 refine⟨_,rfl,_,rfl,p,L3 m,rfl,S3,.inr ⟨fun c=>absurd c.1 (by rw[Z7q];decide),fun t ht=>?_⟩⟩
 have s4:=Z0f ht (.tup [.int (m.2.1:Int),.int (m.2.2:Int)])
 refine⟨t,[(m.2.1:Int),(m.2.2:Int)],rfl,SqT.of Z0c,(show 0<2 by decide),fun M hM hi=>⟨_,rfl,_,_,rfl,rfl,⟨1,sz1,by omega,by omega⟩,_,_,rfl,rfl,_,rfl,decI (fun z=>?_) (fun _=>?_)⟩⟩
 ·rw[ipow] at z
  simp only[List.mem_cons,List.not_mem_nil,or_false] at hM
  omega
 have S5:=(S2.trans s4).tup SI
 refine⟨_,rfl,p,_,_,_,rfl,rfl,S5,rfl,_,rfl,p,_,_,_,rfl,rfl,S5,rfl,_,rfl,p,_,_,_,rfl,rfl,S5,rfl,_,_,rfl,rfl,m.2.1&&&m.2.2,Z3z _ _,_,_,rfl,rfl,_,_,rfl,rfl,Z2p,rfl,?_⟩
 show Q (.bl (decide (V.int (((m.1:Int)+((pc (m.2.1&&&m.2.2):Nat):Int))%2)=V.int 0))) _
 unfold ev at evm
 rw[decide_eq_true (by congr 1;omega)]
 exact kq _ (S2.trans s4)
theorem Z6s:∀ {a b:List Int},a.Perm b->a.Pairwise (·<=·)->b.Pairwise (·<=·)->a=b
 | [],b,p,_,_=>(List.Perm.nil_eq p)
 | x::a,[],p,_,_=>absurd p.length_eq (by simp)
 | x::a,y::b,p,ha,hb=>by
  have hx:x∈y::b:=p.mem_iff.mp (.head _)
  have hy:y∈x::a:=p.mem_iff.mpr (.head _)
  have e:x=y:=by
   rcases List.mem_cons.mp hx with e | m
   ·exact e
   ·rcases List.mem_cons.mp hy with e | m'
    ·exact e.symm
    ·have:=(List.pairwise_cons.mp hb).1 x m
     have:=(List.pairwise_cons.mp ha).1 y m'
     omega
  subst e
  rw[Z6s (List.Perm.cons_inv p) (List.pairwise_cons.mp ha).2 (List.pairwise_cons.mp hb).2]
theorem X1e (c:Int)(ns:List Int):inV (.int c) (ns.map V.int)=ns.contains c:=by
 unfold inV
 induction ns with
 | nil=>rfl
 | cons n ns ih =>
  rw[List.map_cons,List.any_cons,ih,List.contains_cons]
  congr 1
  show decide (n=c)=(c == n)
  by_cases e:n=c
  ·subst e;simp
  ·rw[decide_eq_false e]
   symm
   simpa using fun z=>e z.symm
theorem Y8f (ns:List Int):(ns.map V.int).all flatV=true:=by
 rw[List.all_eq_true]
 intro x hx
 obtain⟨n,_,rfl⟩:=List.mem_map.mp hx
 rfl
noncomputable abbrev lds (S:List Mk):List Int:=S.map fun m=>((ldm m:Nat):Int)
def Y5v:Sp:=fun vs H Q _=>∃ (l:Addr) (qs:List Addr) (S:List Mk) (c:Nat),vs=[.ref l,.int c]/\H l=some (.lst (qs.map V.ref))/\Mks H qs S/\(∀ m∈S,M82.Ok c m/\ev m)/\M53.Red (S.map vec) (S.map ldm)/\S.length<=12/\c<=6/\∀ H',Same H H'->Q (.bl true) H'
theorem Z4m (n:Nat):(List.replicate n true).all id=true:=by
 induction n with
 | zero=>rfl
 | succ n ih=>rw[List.replicate_succ,List.all_cons,ih];rfl
theorem X6q {S:List Mk}(R:M53.Red (S.map vec) (S.map ldm)):(lds S).Pairwise (·<·):=by
 have:=R.rise
 rw[List.pairwise_map] at this ⊢
 exact this.imp fun h=>by omega
theorem sc_isred:FnScope ["_law_rows","_law_cells","_law_leads","_law_k","_law_j"] ["_law_rows","_law_cells"] (Z0i (top 85)):=fS
theorem X0n (F:FunAt K "_law_is_reduced" (top 85) .none)(X:K.In h)(G:h.Ns mainGlobals mg)(B:Bs mg)(c__law_lead:Cal P w K mg base k "_law_lead" ["_law_mark"] (spLead K))(c__law_is_mark:Cal P w K mg base k "_law_is_mark" ["_law_found","_law_cells"] Y2u):Cal P w K mg base (k+1) "_law_is_reduced" ["_law_rows","_law_cells"] Y5v:=by
 have nd:=sc_isred.nd
 refine F.cal X G sc_isred (bnd2 fun _ _ _ _ _ _ _ _=>rfl) (fun vs H Q E' h=>?_) (fun f cdv A outer s H vs Q E' hr h=>?_)
 ·obtain⟨l,qs,S,c,rfl,_⟩:=h;rfl
 obtain⟨l,qs,S,c,rfl,hl,hm,ok,R,l12,c6,kq⟩:=h
 have lq:=hm.length
 have SL:SqL K H l (qs.map V.ref):=SqL.of hl
 have t12:(qs.map V.ref).length<=sizeLine:=by rw[List.length_map,lq];exact Nat.le_trans l12 (by decide)
 refine⟨_,(@Z0e _ _ _ _ _ (Z0y (PW.pt (Z3y (Z2f (Z1l (Z0q Z1f rfl B.isinstance boot_isinstance (Z0a (pv 0) (Z0a (Z2x (v:=.ty "list") rfl B.list boot_list rfl) Z0d))))) (Z3w (Z2f (Z1l (Z0q (Z2h rfl) rfl B.all boot_all (Z0a (Z3k rfl (LcOk.of (Nc:=["_law_mark","_law_cells"]) (mp:=[none,some 1]) (by kernel_rfl)) (Z1d (pv 0)) (fun _ _ _ _=>(Z0m (i:=0) (show (["_law_mark","_law_cells"]:List Str).Nodup by decide +kernel) rfl (Or.inl rfl))) (fun _ _ _ _=>(Z0k c__law_is_mark hr rfl (Z0a (pv 0) (Z0a (pv 1) Z0d))))) Z0d)))))))
   (@Z0g _ _ _ (Z0j Z2w))
   Z0p)
  (@Z0e _ _ _ _ _ (Z2z (i:=2) rfl nd rfl rfl (LcOk.of (Nc:=["_law_mark"]) (mp:=[none]) (by kernel_rfl)) (Z1d (pv 0)) (fun _ _ _ _=>(Z0m (i:=0) (show (["_law_mark"]:List Str).Nodup by decide +kernel) rfl (Or.inl rfl))) (fun _ _ _ _=>(Z0k c__law_lead hr rfl (Z0a (pv 0) Z0d))) rfl)
  (@Z0e _ _ _ _ _ (Z0y (PW.pt (Z3y (Z0o (X3w hr.units) (pv 2) (Z0q Y0f rfl B.sorted boot_sorted (Z0a (pv 2) Z0d)) (nomark _)) (Z3y (Z0o Z5d (Z0q Y0i rfl B.len PySem.boot_len (Z0a (Z4f (Y8r rfl) rfl B.set boot_set (Z0a (pv 2) Z0d)) Z0d)) (Z0q Z0v rfl B.len PySem.boot_len (Z0a (pv 2) Z0d)) (nomark _)) (Z3w (Z0o Z9v Z0b (pv 2) rfl)))))
   (@Z0g _ _ _ (Z0j Z2w))
   Z0p)
  (@Z0e _ _ _ _ _ (Z1p PassesOwn.never rfl (Z0w rfl B.range (Z0a (Z0q Z0v rfl B.len PySem.boot_len (Z0a (pv 0) Z0d)) Z0d)) (Z0m (i:=3) nd rfl (Or.inl rfl))
   (@Z0g _ _ _ (Z1p PassesOwn.never rfl (Z0w rfl B.range (Z0a (Z0q Z0v rfl B.len PySem.boot_len (Z0a (pv 0) Z0d)) Z0d)) (Z0m (i:=4) nd rfl (Or.inl rfl))
    (@Z0g _ _ _ (Z0y (PW.pt (Z6q (Z0o Z5d (pv 4) (pv 3) (nomark _)) (Z4q (Z0o Z1u (Z0h Z0u (Z0h Z5e (Z0h Z1c (Z0n Z0l (Z0n Z1a (pv 0) (pv 4) (fun _ _=>rfl)) Z0b (fun _ _=>rfl)) (Z0h Z2y (Z0n Z0l (Z0n Z1a (pv 0) (pv 4) (fun _ _=>rfl)) Z0b (fun _ _=>rfl)) Z0b)) (Z0h Z1r Z0b (Z0n Z1a (pv 2) (pv 3) (fun _ _=>rfl)))) Z0b) Z0b (nomark _)))))
     (@Z0g _ _ _ (Z0j Z2w))
     Z0p)))))
  (@Z0g _ _ _ (Z0j Z2w)))))),?_⟩
 try dsimp only[cxK]
 refine⟨_,rfl,_,_,_,true,rfl,TyOf.lst hl,K62T.X2o K,_,rfl,iteF ⟨_,rfl,l,rfl,⟨_,SL⟩,fun acc hacc=>?_⟩⟩
 refine Z3h (K:=K) (a:=l) (xs:=qs.map V.ref) (fr:=[some (.int c)]) (fun i ys H'=>Same H H'/\H' acc=some (.lst ys)/\ys=(List.replicate i true).map V.bl) t12 ⟨Z0f hacc _,Z0c,rfl⟩ (fun i ys H' e=>e.1.seq SL) ?_ ?_
 ·rintro i x ys H1 N hx hy ⟨S1,a1,rfl⟩ kN
  rw[List.getElem?_map] at hx
  obtain⟨p,hp,rfl⟩:=Option.map_eq_some_iff.mp hx
  obtain⟨m,hmi,pm⟩:=hm.get hp
  obtain⟨om,em⟩:=ok m (List.mem_of_getElem? hmi)
  refine⟨_,rfl,_,rfl,p,m,c,rfl,S1 _ _ pm,om,em,c6,fun H2 S2=>kN _ _ (S2 _ _ a1) ⟨Z0s (S1.trans S2) hacc,Z0c,?_⟩⟩
  rw[List.replicate_succ',List.map_append]
  rfl
 rintro ys H1 hy ⟨S1,a1,rfl⟩
 refine⟨acc,_,rfl,SqL.of a1,_,rfl,blI (fun z=>absurd z (by rw[Z4m];exact Bool.false_ne_true)) (fun _=>?_)⟩
 refine⟨_,rfl,l,rfl,⟨_,S1.seq SL⟩,fun la hla=>?_⟩
 refine Z3h (K:=K) (a:=l) (xs:=qs.map V.ref) (fr:=[]) (fun i ys H'=>Same H1 H'/\H' la=some (.lst ys)/\ys=(lds (S.take i)).map V.int) t12 ⟨Z0f hla _,Z0c,rfl⟩ (fun i ys H' e=>e.1.seq (S1.seq SL)) ?_ ?_
 ·rintro i x ys H2 N hx hy ⟨S2,a2,rfl⟩ kN
  rw[List.getElem?_map] at hx
  obtain⟨p,hp,rfl⟩:=Option.map_eq_some_iff.mp hx
  obtain⟨m,hmi,pm⟩:=hm.get hp
  have mS:=List.mem_of_getElem? hmi
  have im:i<S.length:=(List.getElem?_eq_some_iff.mp hmi).1
  have ld:=R.ld i (by rw[List.length_map];exact im)
  rw[List.getD_eq_getElem?_getD,List.getD_eq_getElem?_getD,List.getElem?_map,List.getElem?_map,hmi] at ld
  refine⟨_,rfl,p,m,ldm m,rfl,SqT.of (S2 _ _ (S1 _ _ pm)),(ok m mS).1.v6 c6,ld,kN _ _ a2 ⟨Z0s S2 hla,Z0c,?_⟩⟩
  rw[List.take_add_one,hmi,Option.toList_some]
  unfold lds
  rw[List.map_append,List.map_append]
  rfl
 rintro ys H2 hy ⟨S2,a2,rfl⟩
 rw[List.length_map,lq,List.take_length] at a2
 have S12:=S1.trans S2
 have lt:=X6q R
 have le:(lds S).Pairwise (·<=·):=lt.imp fun h=>by omega
 have nodup:(lds S).Nodup:=lt.imp fun h=>by omega
 have ll:(lds S).length=S.length:=List.length_map ..
 have SA:SqL K H2 la ((lds S).map V.int):=SqL.of a2
 refine⟨_,rfl,_,rfl,la,lds S,rfl,SA,by omega,fun l2 ns' hl2 pm pw=>?_⟩
 have e2:ns'=lds S:=Z6s pm pw le
 subst e2
 have s3:=Z0f hl2 (.lst ((lds S).map V.int))
 refine⟨la,l2,lds S,lds S,rfl,rfl,s3.seq SA,SqL.of Z0c,_,rfl,blI (fun z=>absurd z (by simp)) (fun _=>?_)⟩
 generalize upd H2 l2 (.lst ((lds S).map V.int))=H3 at *
 have SA3:=s3.seq SA
 refine⟨_,rfl,la,lds S,rfl,SA3,by omega,fun l4 SS hl4=>?_⟩
 have s4:=Z0f hl4 (.set SS (unlike (lds S)))
 refine⟨l4,SS,unlike (lds S),rfl,Z0c,(by rw[Z4a nodup];omega),?_⟩
 refine⟨_,rfl,la,_,rfl,.inl (s4.seq SA3),rfl,_,rfl,neI (fun z=>absurd (by rw[Z4a nodup];simp) z) (fun _=>?_)⟩
 generalize upd H3 l4 (.set SS (unlike (lds S)))=H4 at *
 have S14:Same H H4:=(S12.trans s3).trans s4
 have SA4:=s4.seq SA3
 have n12:(lds S).contains 12=false:=by
  apply Bool.eq_false_iff.mpr
  intro z
  obtain⟨m,hm',e⟩:=List.mem_map.mp (List.contains_iff_mem.mp z)
  have im:=List.mem_iff_getElem?.mp hm'
  obtain⟨i,hi⟩:=im
  have ld:=R.ld i (by rw[List.length_map];exact(List.getElem?_eq_some_iff.mp hi).1)
  rw[List.getD_eq_getElem?_getD,List.getD_eq_getElem?_getD,List.getElem?_map,List.getElem?_map,hi] at ld
  have:=ld12 ((ok m hm').1.v6 c6) (show IsLd (vec m) (ldm m) from ld)
  have e:((ldm m:Nat):Int)=12:=e
  omega
 refine⟨_,rfl,la,_,rfl,.inl SA4,rfl,Y8f _,_,rfl,?_⟩
 have eIn:inV (.int 12) ((lds S).map V.int)=false:=by rw[X1e];exact n12
 refine blI (fun z=>absurd (show inV (.int 12) ((lds S).map V.int)=true from z) (by rw[eIn];exact Bool.false_ne_true)) (fun _=>?_)
 have SL4:=S14.seq SL
 have eN:(((qs.map V.ref).length:Nat):Int).toNat=S.length:=by rw[Int.toNat_natCast,List.length_map,lq]
 refine⟨_,rfl,l,_,rfl,.inl SL4,_,rfl,by omega,(by rw[List.length_map];omega),?_⟩
 rw[eN]
 refine Z1i (n:=S.length) (fun i σ H'=>H'=H4/\∃ v3 v4:Option V,σ=[some (.ref l),some (.int c),some (.ref la),v3,v4]) ⟨rfl,_,_,rfl⟩ ?_ ?_
 ·rintro i σ H5 hi ⟨rfl,v3,v4,rfl⟩
  refine⟨_,rfl,l,_,rfl,.inl SL4,_,rfl,by omega,(by rw[List.length_map];omega),?_⟩
  rw[eN]
  refine Z1i (n:=S.length) (fun j σ H'=>H'=H5/\∃ v4:Option V,σ=[some (.ref l),some (.int c),some (.ref la),some (.int (0+(i:Int))),v4]) ⟨rfl,_,rfl⟩ ?_ ?_
  ·rintro j σ H6 hj ⟨rfl,v4,rfl⟩
   refine⟨_,rfl,_,rfl,rfl,_,rfl,neI (fun ne=>?_) (fun _=>⟨rfl,_,rfl⟩)⟩
   have ei:(0:Int)+(i:Int)=(i:Int):=Int.zero_add _
   have ej:(0:Int)+(j:Int)=(j:Int):=Int.zero_add _
   have nij:j≠i:=fun z=>ne (by rw[z])
   obtain⟨p,hp,pm⟩:=(hm.same S14).at hj
   have hmi:S[i]?=some S[i]:=List.getElem?_eq_getElem hi
   have hmj:S[j]?=some S[j]:=List.getElem?_eq_getElem hj
   have gj:S.getD j (0,0,0)=S[j]:=by rw[List.getD_eq_getElem?_getD,hmj];rfl
   rw[gj] at pm
   have mi:S[i]∈S:=List.getElem_mem hi
   have ld:=R.ld i (by rw[List.length_map];exact hi)
   have off:=R.off j i (by rw[List.length_map];exact hj) (by rw[List.length_map];exact hi) nij
   rw[List.getD_eq_getElem?_getD,List.getD_eq_getElem?_getD,List.getElem?_map,List.getElem?_map,hmi] at ld
   rw[List.getD_eq_getElem?_getD,List.getD_eq_getElem?_getD,List.getElem?_map,List.getElem?_map,hmi,hmj] at off
   have ld:IsLd (vec S[i]) (ldm S[i]):=ld
   have off:bit (vec S[j]) (ldm S[i])=0:=off
   have n12':=ld12 ((ok _ mi).1.v6 c6) ld
   have aj:atI (qs.map V.ref) (0+(j:Int))=some (.ref p):=by rw[ej];exact Z4k (by rw[List.getElem?_map,hp];rfl)
   have ai:atI ((lds S).map V.int) (0+(i:Int))=some (.int ((ldm S[i]:Nat):Int)):=by rw[ei];exact Z4k (by rw[List.getElem?_map,List.getElem?_map,hmi];rfl)
   have SP:SqT K H6 p (L3 S[j]):=SqT.of pm
   refine⟨_,rfl,_,rfl,l,_,_,.ref p,rfl,rfl,SL4,aj,p,_,_,_,rfl,rfl,SP,rfl,_,rfl,_,rfl,l,_,_,.ref p,rfl,rfl,SL4,aj,p,_,_,_,rfl,rfl,SP,rfl,_,_,rfl,rfl,.inr ⟨by decide,by decide⟩,_,_,rfl,rfl,_,rfl,_,rfl,la,_,_,_,rfl,rfl,SA4,ai,_,_,rfl,rfl,⟨1,sz1,by omega,by omega⟩,_,_,rfl,rfl,⟨Int.ne_of_gt (pp _),sz12 (by omega)⟩,_,_,rfl,rfl,Z2p,rfl,_,rfl,eqI (fun z=>?_) (fun _=>⟨rfl,_,rfl⟩)⟩
   rw[X2z,X5u,off] at z
   cases z
  ·rintro σ H6 ⟨rfl,v4,rfl⟩
   exact⟨rfl,_,_,rfl⟩
 ·rintro σ H5 ⟨rfl,v3,v4,rfl⟩
  exact kq _ S14
end
end K62
namespace K62
open PySem PySem.Spec PyProof.Rows L2 Am Pc Ba
open M54 (Mk bit Z1k Z4j mul)
open M57 (E Y0s Y4h)
open K62T (T3 L3 Mks Z3z Z2p Z2e)
def k3 (m:Mk):List Key:=[Sum.inl (m.1:Int),Sum.inl (m.2.1:Int),Sum.inl (m.2.2:Int)]
structure Full (ms:List Mk) (n:Nat) (kvs:List (List Key × V)):Prop where
 has:∀ x,x<2^n->∃ v,valV kvs (k3 (E ms x))=some v
 only:∀ key v,valV kvs key=some v->∃ m:Mk,key=k3 m
structure Half (ms:List Mk) (i:Nat) (kvs kvs':List (List Key × V)) (j:Nat):Prop where
 has:∀ x,x<2^i->∃ v,valV kvs' (k3 (E ms x))=some v
 new:∀ j',j'<j->∀ kv,kvs[j']?=some kv->∀ m:Mk,kv.1=k3 m->∃ v,valV kvs' (k3 (mul m (ms.getD i (0,0,0))))=some v
 only:∀ key v,valV kvs' key=some v->∃ m:Mk,key=k3 m
theorem Half.start {ms:List Mk}{i:Nat}{kvs:List (List Key × V)}(F:Full ms i kvs):Half ms i kvs kvs 0 :=
 ⟨F.has,fun j' h=>absurd h (Nat.not_lt_zero _),F.only⟩
theorem X7m {a b:Mk}(h:k3 a=k3 b):a=b:=by
 unfold k3 at h
 injection h with h1 h2
 injection h2 with h2 h3
 injection h3 with h3 _
 exact Prod.ext (Int.ofNat.inj (Sum.inl.inj h1)) (Prod.ext (Int.ofNat.inj (Sum.inl.inj h2)) (Int.ofNat.inj (Sum.inl.inj h3)))
theorem Y3b {kvs:List (List Key × V)}{k key:List Key}{v:V}(h:∃ u,valV kvs key=some u):∃ u,valV (putK kvs k v) key=some u:=by
 rw[Z8a]
 split
 ·exact⟨_,rfl⟩
 ·exact h
theorem Half.next {ms:List Mk}{i:Nat}{kvs kvs':List (List Key × V)}{j:Nat}{v:V}(h:Half ms i kvs kvs' j){kv:List Key × V}(hkv:kvs[j]?=some kv){m:Mk}(e:kv.1=k3 m) :
  Half ms i kvs (putK kvs' (k3 (mul m (ms.getD i (0,0,0)))) v) (j+1):=by
 refine⟨fun y hy=>Y3b (h.has y hy),fun j' hj kv' hkv' m' em'=>?_,fun key u hu=>?_⟩
 ·by_cases ej:j'=j
  ·subst ej
   rw[hkv] at hkv'
   cases hkv'
   rw[e] at em'
   rw[<-X7m em',Z8a,if_pos rfl]
   exact⟨_,rfl⟩
  ·exact Y3b (h.new j' (by omega) kv' hkv' m' em')
 ·rw[Z8a] at hu
  by_cases q:key=k3 (mul m (ms.getD i (0,0,0)))
  ·exact⟨_,q⟩
  ·rw[if_neg q] at hu
   exact h.only key u hu
theorem X3a {kvs:List (List Key × V)}{k:List Key}{v:V}(h:valV kvs k=some v):∃ kv∈kvs,kv.1=k:=by
 have a:=Z3o k kvs
 rw[h,Option.isSome_some] at a
 obtain⟨kv,m,e⟩:=List.any_eq_true.mp a
 exact⟨kv,m,of_decide_eq_true e⟩
theorem X4w {kvs:List (List Key × V)}{kv:List Key × V}(h:kv∈kvs):∃ v,valV kvs kv.1=some v:=by
 have a:=Z3o kv.1 kvs
 rw[List.any_eq_true.mpr ⟨kv,h,decide_eq_true rfl⟩] at a
 exact Option.isSome_iff_exists.mp a.symm
theorem Half.done {ms:List Mk}{i:Nat}{kvs kvs':List (List Key × V)}(hi:i<ms.length)(F:Full ms i kvs)(h:Half ms i kvs kvs' kvs.length):Full ms (i+1) kvs':=by
 refine⟨fun x hx=>?_,h.only⟩
 by_cases lo:x<2^i
 ·exact h.has x lo
 ·rw[Nat.pow_succ] at hx
  have hy:x-2^i<2^i:=by omega
  obtain⟨v,hv⟩:=F.has _ hy
  obtain⟨kv,m,e⟩:=X3a hv
  obtain⟨j,hj,ej⟩:=List.mem_iff_getElem.mp m
  have:=h.new j hj kv (by rw[List.getElem?_eq_getElem hj,ej]) _ e
  rw[<-Y4h ms hy hi,show x-2^i+2^i=x by omega] at this
  exact this
theorem Full.start (ms:List Mk)(u:V):Full ms 0 [(k3 (0,0,0),u)]:=by
 refine⟨fun x hx=>?_,fun key v h=>?_⟩
 ·have:x=0:=by rw[Nat.pow_zero] at hx;omega
  subst this
  rw[Y0s,Z1x rfl]
  exact⟨_,rfl⟩
 ·by_cases e:k3 (0,0,0)=key
  ·exact⟨_,e.symm⟩
  ·rw[Z1y e] at h
   cases h
def SB (d:Addr)(H H':Hp):Prop:=∀ a o,a≠d->H a=some o->H' a=some o
theorem SB.refl (d:Addr)(H:Hp):SB d H H:=fun _ _ _ h=>h
theorem Y3s {H:Hp}:∀ {bs:List Addr}{kvs:List (List Key × V)}{j:Nat}{b:Addr},Paired (fun b (kv:List Key × V)=>H b=some (.tup (kv.1.map kV))) bs kvs->bs[j]?=some b->∃ kv,kvs[j]?=some kv/\H b=some (.tup (kv.1.map kV))
 | b'::bs,kv::kvs,0,b,.cons a r,h=>by
  have:b'=b:=by simpa using h
  subst this
  exact⟨kv,rfl,a⟩
 | b'::bs,kv::kvs,j+1,b,.cons a r,h=>by
  obtain⟨kv',m,q⟩:=Y3s (bs:=bs) (kvs:=kvs) (j:=j) (b:=b) r (by simpa using h)
  exact⟨kv',m,q⟩
def spMade (K:PySem.W.Frag):Sp:=fun vs H Q _=>∃ (l:Addr) (qs:List Addr) (S:List Mk),vs=[.ref l]/\SqL K H l (qs.map V.ref)/\Mks H qs S/\S.length<=12 ∧
 ∀ (d:Addr) (H':Hp) (kvs:List (List Key × V)),Same H H'->H' d=some (.dT kvs)->(∀ x,x<2^S.length->∃ v,valV kvs (k3 (E S x))=some v)->Q (.ref d) H'
section
variable {P:Program}{w:World}{K:PySem.W.Frag}{mg:Str->Option Value}{base:Heap}{k:Nat}{h:Heap}
theorem sc_lproduct:FnScope ["_law_one","_law_other","_law_q"] ["_law_one","_law_other"] (Z0i (top 86)):=fS
theorem Y1k (F:FunAt K "_law_product" (top 86) .none)(X:K.In h)(G:h.Ns mainGlobals mg)(c__law_bits:Cal P w K mg base k "_law_bits" ["_law_number"] spOnes):Cal P w K mg base (k+1) "_law_product" ["_law_one","_law_other"] (K62T.Z4b K):=by
 have nd:=sc_lproduct.nd
 refine F.cal X G sc_lproduct (bnd2 fun _ _ _ _ _ _ _ _=>rfl) (fun vs H Q E h=>?_) (fun f cdv A outer s H vs Q E hr h=>?_)
 ·obtain⟨p,p',m,m',rfl,_⟩:=h;rfl
 obtain⟨p,p',m,m',rfl,S1,S2,kq⟩:=h
 refine⟨_,(@Z0e _ _ _ _ _ (@Z0r _ _ 2 _ _ _ _ nd rfl (Or.inl rfl) (Z0h Z1c (Z0h Z1c (Z0n Z0l (pv 0) Z0b (fun _ _=>rfl)) (Z0n Z0l (pv 1) Z0b (fun _ _=>rfl))) (Z0h Z2y Z0b (Z0k c__law_bits hr rfl (Z0a (Z0h Z1t (Z0n Z0l (pv 0) Z0b (fun _ _=>rfl)) (Z0n Z0l (pv 1) Z0b (fun _ _=>rfl))) Z0d)))) rfl (.inl rfl))
  (@Z0g _ _ _ (Z0j (@Z0z _ _ _ _ _ (Z0a (Z0h Z0u (pv 2) Z0b) (Z0a (Z0h Z3n (Z0n Z0l (pv 0) Z0b (fun _ _=>rfl)) (Z0n Z0l (pv 1) Z0b (fun _ _=>rfl))) (Z0a (Z0h Z3n (Z0n Z0l (pv 0) Z0b (fun _ _=>rfl)) (Z0n Z0l (pv 1) Z0b (fun _ _=>rfl))) Z0d))))))),?_⟩
 try dsimp only[cxK]
 refine⟨_,rfl,p,_,_,_,rfl,rfl,S1,rfl,_,rfl,p',_,_,_,rfl,rfl,S2,rfl,_,_,rfl,rfl,_,rfl,p,_,_,_,rfl,rfl,S1,rfl,_,rfl,p',_,_,_,rfl,rfl,S2,rfl,_,_,rfl,rfl,m.2.2&&&m'.2.1,Z3z _ _,_,_,rfl,rfl,.inl ⟨by decide,by decide⟩,_,_,rfl,rfl,?_⟩
 refine⟨_,rfl,_,_,rfl,rfl,Z2e,_,rfl,p,_,_,_,rfl,rfl,S1,rfl,_,rfl,p',_,_,_,rfl,rfl,S2,rfl,_,_,rfl,rfl,_,rfl,p,_,_,_,rfl,rfl,S1,rfl,_,rfl,p',_,_,_,rfl,rfl,S2,rfl,_,_,rfl,rfl,t3,fun r hr=>?_⟩
 refine kq r _ (Z0f hr _) ?_
 rw[Z0c]
 show some (HO.tup [.int (((m.1:Int)+m'.1+2*((pc (m.2.2&&&m'.2.1):Nat):Int))%4),.int (Builtin.bitXor (m.2.1:Int) m'.2.1),.int (Builtin.bitXor (m.2.2:Int) m'.2.2)])=_
 rw[Z4p,Z4p]
 rfl
theorem sc_made:FnScope ["_law_rows","_law_found","_law_row","_law_mark"] ["_law_rows"] (Z0i (top 87)):=fS
theorem X4e (F:FunAt K "_law_made" (top 87) .none)(X:K.In h)(G:h.Ns mainGlobals mg)(B:Bs mg)(c__law_product:Cal P w K mg base k "_law_product" ["_law_one","_law_other"] (K62T.Z4b K)):Cal P w K mg base (k+1) "_law_made" ["_law_rows"] (spMade K):=by
 have nd:=sc_made.nd
 refine F.cal X G sc_made (bnd1 fun _ _ _ _ _ _ _=>rfl) (fun vs H Q E' h=>?_) (fun f cdv A outer s H vs Q E' hr h=>?_)
 ·obtain⟨l,qs,S,rfl,_⟩:=h;rfl
 obtain⟨l,qs,S,rfl,SL,MK,l12,kq⟩:=h
 have lq:=MK.length
 refine⟨_,(@Z0e _ _ _ _ _ (@Z0r _ _ 1 _ _ _ _ nd rfl (Or.inl rfl) (Y9w (Y1q hr) (@Z0z _ _ _ _ _ (Z0a Z0b (Z0a Z0b (Z0a Z0b Z0d)))) Z2w) rfl (.inl rfl))
  (@Z0e _ _ _ _ _ (Z1p PassesOwn.never rfl (Z1d (pv 0)) (Z0m (i:=2) nd rfl (Or.inl rfl))
   (@Z0g _ _ _ (Z1p PassesOwn.never rfl (Z1d (Z4f (Y5b rfl) rfl B.list boot_list (Z0a (pv 1) Z0d))) (Z0m (i:=3) nd rfl (Or.inl rfl))
    (@Z0g _ _ _ (Y6g (Y1q hr) (pv 1) (Z0k c__law_product hr rfl (Z0a (pv 3) (Z0a (pv 2) Z0d))) Z2w rfl)))))
  (@Z0g _ _ _ (Z0j (pv 1))))),?_⟩
 try dsimp only[cxK]
 refine fun d hd=>⟨t3,fun kt hkt=>?_⟩
 have s2:=Z0f hd (.dT [])
 have s3:=Z0f hkt (.tup [.int 0,.int 0,.int 0])
 refine⟨s3 _ _ Z0c,kt,k3 (0,0,0),_,rfl,Z0c,?_⟩
 have s0:=Z0s (s2.trans s3) hd (o:=.dT [(k3 (0,0,0),.bl true)])
 refine⟨_,rfl,l,rfl,⟨_,s0.seq SL⟩,Z2o (K:=K) (a:=l) (xs:=qs.map V.ref) (fun i σ H'=>Same H H'/\∃ (kvs:List (List Key × V)) (v2 v3:Option V),H' d=some (.dT kvs)/\Full S i kvs/\kvs.length<=2^i/\σ=[some (.ref l),some (.ref d),v2,v3])
  ⟨s0,_,_,_,Z0c,Full.start S _,(by decide),rfl⟩ (fun i σ H' _ e=>e.1.seq SL) ?_ ?_⟩
 ·rintro i x σ H1 hx ⟨S1,kvs,v2,v3,d1,FU,kl,rfl⟩
  rw[List.getElem?_map] at hx
  obtain⟨p,hp,rfl⟩:=Option.map_eq_some_iff.mp hx
  obtain⟨m,hm,pm⟩:=MK.get hp
  have im:i<S.length:=(List.getElem?_eq_some_iff.mp hm).1
  have em:S.getD i (0,0,0)=m:=by rw[List.getD_eq_getElem?_getD,hm];rfl
  have p1:=S1 _ _ pm
  have p11:2^i<=2^11:=Nat.pow_le_pow_right (by decide) (by omega)
  refine⟨_,rfl,d,kvs,rfl,d1,fun l2 bs hl2 hbs=>?_⟩
  have sl:=Z0f hl2 (.lst (bs.map V.ref))
  have nd2:l2≠d:=fun z=>by rw[z,d1] at hl2;cases hl2
  have hbl:bs.length=kvs.length:=Paired.length hbs
  refine⟨l2,rfl,⟨_,SqL.of Z0c⟩,Z2o (K:=K) (a:=l2) (xs:=bs.map V.ref) (fun j σ H'=>SB d (upd H1 l2 (.lst (bs.map V.ref))) H'/\∃ (kvs':List (List Key × V)) (v3:Option V),H' d=some (.dT kvs')/\Half S i kvs kvs' j/\kvs'.length<=kvs.length+j ∧
   σ=[some (.ref l),some (.ref d),some (.ref p),v3]) ⟨SB.refl _ _,kvs,_,sl _ _ d1,Half.start FU,by omega,rfl⟩ (fun j σ H' _ e=>SqL.of (e.1 _ _ nd2 Z0c)) ?_ ?_⟩
  ·rintro j x σ H5 hx5 ⟨B5,kvs',w3,d5,HF,kl5,rfl⟩
   rw[List.getElem?_map] at hx5
   obtain⟨b',hb',rfl⟩:=Option.map_eq_some_iff.mp hx5
   have jlt:j<bs.length:=(List.getElem?_eq_some_iff.mp hb').1
   obtain⟨kv,hkv,eb⟩:=Y3s hbs hb'
   obtain⟨vv,hvv⟩:=X4w (List.mem_of_getElem? hkv)
   obtain⟨mx,ek⟩:=FU.only _ _ hvv
   have nxt:=HF.next (v:=.bl true) hkv ek
   rw[em] at nxt
   rw[ek] at eb
   have eb5:H5 b'=some (T3 mx):=B5 _ _ (Z5o eb d1 (by intro z;cases z)) (sl _ _ eb)
   have pm5:H5 p=some (T3 m):=B5 _ _ (Z5o p1 d1 (by intro z;cases z)) (sl _ _ p1)
   refine⟨_,rfl,_,rfl,_,rfl,b',p,mx,m,rfl,SqT.of eb5,SqT.of pm5,fun r H6 S6 hr=>?_⟩
   have d6:=S6 _ _ d5
   refine⟨d,_,rfl,DPut.t (k:=k3 (mul mx m)) d6 hr (Nat.lt_of_lt_of_le (show kvs'.length<5000 by omega) (by decide)),fun a o na ha=>?_,_,_,Z0c,nxt,?_,rfl⟩
   ·rw[Z0x na]
    exact S6 _ _ (B5 _ _ na ha)
   ·have:=Z4t kvs' (k3 (mul mx m)) (V.bl true)
    exact Nat.le_trans this (by omega)
  ·rintro σ H5 ⟨B5,kvs',w3,d5,HF,kl5,rfl⟩
   rw[List.length_map,hbl] at kl5 HF
   have keep:∀ a o,a≠d->H1 a=some o->H5 a=some o:=fun a o na ha=>B5 a o na (sl _ _ ha)
   refine⟨fun a o ha=>keep a o (Z1g ha hd) (S1 a o ha),kvs',_,_,d5,HF.done im FU,?_,rfl⟩
   rw[Nat.pow_succ]
   omega
 ·rintro σ H1 ⟨S1,kvs,v2,v3,d1,FU,kl,rfl⟩
  rw[List.length_map,lq] at FU
  exact⟨_,rfl,kq d H1 kvs S1 d1 FU.has⟩
end
end K62
namespace L2
open PySem PySem.Spec PyProof.Rows
section
variable {X:Cx}{scope:Scope}{Nc:List Str}{ex:List Addr}{pins:List (Addr × Obj)}{s:Shared}{H:Hp}
theorem Y9t {x y z:Str}{k k2:Nat}{p1 p2 p3 pos2 pos:Pos}(hc:(cxLc X scope Nc ex pins s H).calm=true)(hN:Nc.Nodup)(h0:Nc[0]?=some x)(h1:Nc[1]?=some y)(h2:Nc[2]?=some z)(l0:(cxLc X scope Nc ex pins s H).env.scope.names.lookup x=some .local)(l1:(cxLc X scope Nc ex pins s H).env.scope.names.lookup y=some .local)(l2:(cxLc X scope Nc ex pins s H).env.scope.names.lookup z=some .local) :
  PG (cxLc X scope Nc ex pins s H) (.Tuple [.Name x p1,.Tuple [.Name y p2,.Name z p3] k2 pos2] k pos) (gTup X.K 2 (gCons (gName 0) (gCons (gTup X.K 2 (gCons (gName 1) (gCons (gName 2) gNil))) gNil))) :=
 Z4n (X:=cxLc X scope Nc ex pins s H) hc (Z1b (Z0m (i:=0) hN h0 (.inl l0) (.inr l0)) (Z1b (Z4n (X:=cxLc X scope Nc ex pins s H) hc (Z1b (Z0m (i:=1) hN h1 (.inl l1) (.inr l1)) (Z1b (Z0m (i:=2) hN h2 (.inl l2) (.inr l2)) Z3j))) Z3j))
theorem Y9i:SlR (cxLc X scope Nc ex pins s H) (rSlA X.K):=Z6m
end
theorem X1a {K:PySem.W.Frag}{a:Addr}{xs:List V}{g:TG}{te:TE}{fr:St}{H1:Hp}{acc:Addr}{Q:VK}(Pv:Nat->List V->Hp->Prop)(hn:xs.length<=sizeLine)(h0:Pv 0 [] (upd H1 acc (.lst [])))
  (hl:∀ i ys H,Pv i ys H->SqL K H a xs)
  (hs:∀ i x ys H T (N:St->V->Hp->Prop) (w1 w2 w3:Option V),xs[i]?=some x->ys.length=i->Pv i ys H->H T=none->(∀ v1 v2 v3 y H5,H5 acc=some (.lst ys)->Pv (i+1) (ys++[y]) (upd H5 acc (.lst (ys++[y])))->N (v1::v2::v3::fr) y H5)->g (.ref T) (w1::w2::w3::fr) (upd H T (.tup [.int i,x])) fun σ4 H4=>te σ4 H4 (N σ4))
  (hd:∀ ys H,ys.length=xs.length->Pv xs.length ys H->Q (.ref acc) H):LcW (Ite K a) g te (none::none::none::fr) H1 acc Q:=by
 refine⟨fun i m ys σ2 H2=>m=xs.length-i/\i<=xs.length/\ys.length=i/\(∃ v1 v2 v3,σ2=v1::v2::v3::fr)/\Pv i ys H2,⟨xs.length,by simp,Nat.zero_le _,rfl,⟨_,_,_,rfl⟩,h0⟩,?_⟩
 rintro i m ys σ2 H2 ⟨rfl,hi,hy,⟨v1,v2,v3,rfl⟩,p⟩
 by_cases hlt:i<xs.length
 ·have e1:xs[i]?=some xs[i]:=by simp[hlt]
  refine .inr ⟨⟨xs,_,hl i ys H2 p,e1⟩,fun u H3 y3=>?_⟩
  obtain⟨T,x,rfl,hT,rfl,q⟩:=y3
  exact hs i x ys _ T (fun σ4 y H5=>H5 acc=some (.lst ys)/\ys.length<sizeLine/\∃ m',m'<xs.length-i/\_) _ _ _ (q xs (hl i ys _ p)) hy p hT fun u1 u2 u3 y H5 a5 p5=>⟨a5,by omega,xs.length-(i+1),by omega,rfl,hlt,by simp[hy],⟨_,_,_,rfl⟩,p5⟩
 ·have e:i=xs.length:=by omega
  subst e
  exact .inl ⟨⟨xs,hl _ ys H2 p,Nat.le_refl _⟩,hd ys H2 hy p⟩
end L2
namespace K62
open PySem PySem.Spec PyProof.Rows L2 Am Pc Ba
open M54 (Mk bit Z1k Z4j mul)
open K62T (T3 L3 Mks Z3z Z2p Z2e)
def Low (c:Nat)(W:Ws):Prop:=∀ t∈W,t.1<2^c/\t.2<2^c
def Y5o (K:PySem.W.Frag):Sp:=fun vs H Q _=>∃ (a:Addr) (ns:List Int) (c:Nat),vs=[.ref a,.int c]/\SqL K H a (ns.map V.int)/\1<=c/\c<=6 ∧
 ∀ (r:Addr) (H':Hp) (qs:List Addr) (W:Ws),Same H H'->H' r=some (.lst (qs.map V.ref))->Prs H' qs W->Low c W->Q (.ref r) H'
theorem Low.snoc {c:Nat}{W:Ws}{t:Nat × Nat}(h:Low c W)(a:t.1<2^c)(b:t.2<2^c):Low c (W++[t]):=fun u hu=>by
 rcases List.mem_append.mp hu with z | z
 ·exact h u z
 ·rw[List.mem_singleton.mp z];exact⟨a,b⟩
theorem szc {c:Nat}(h:c<=6):Sz 7 ((2^c:Nat):Int):=by
 have:=pow6 h
 unfold Sz
 rw[Int.natAbs_natCast]
 omega
section
variable {P:Program}{w:World}{K:PySem.W.Frag}{mg:Str->Option Value}{base:Heap}{k:Nat}{h:Heap}
theorem sc_tried:FnScope ["_law_script","_law_cells","_law_size","_law_found","_law_k"] ["_law_script","_law_cells"] (Z0i (top 88)):=fS
theorem X0c (F:FunAt K "_law_tried" (top 88) .none)(X:K.In h)(G:h.Ns mainGlobals mg)(B:Bs mg)(c__law_cell_at:Cal P w K mg base k "_law_cell_at" ["_law_script","_law_k"] (spCell K))(c__law_mark_by:Cal P w K mg base k "_law_mark_by" ["_law_cell","_law_cells"] Y2t):Cal P w K mg base (k+1) "_law_tried" ["_law_script","_law_cells"] (Y5o K):=by
 have nd:=sc_tried.nd
 refine F.cal X G sc_tried (bnd2 fun _ _ _ _ _ _ _ _=>rfl) (fun vs H Q E' h=>?_) (fun f cdv A outer s H vs Q E' hr h=>?_)
 ·obtain⟨a,ns,c,rfl,_⟩:=h;rfl
 obtain⟨a,ns,c,rfl,SA,c1,c6,kq⟩:=h
 have p6:=pow6 c6
 have p0:0<2^c:=Nat.two_pow_pos c
 refine⟨_,(@Z1q _ _ _ _ _ (@Z0r _ _ 2 _ _ _ _ nd rfl (Or.inl rfl) (Z0h Z1r Z0b (pv 1)) rfl (.inl rfl))
  (@Z0e _ _ _ _ _ (@Z0r _ _ 3 _ _ _ _ nd rfl (Or.inl rfl) (@Z3f _ _ _ _ Z0d) rfl (.inl rfl))
  (@Z0e _ _ _ _ _ (Z1p PassesOwn.never rfl (Z0w rfl B.range (Z0a (Z0h Z4r (pv 2) (pv 2)) Z0d)) (Z0m (i:=4) nd rfl (Or.inl rfl))
   (@Z0e _ _ _ _ _ (Z3i (Y1d PySem.F.plainAttrs_list PySem.F.slot_list_append PySem.F.type_list_append Z2m (pv 3) (Z0a (@Z0z _ _ _ _ _ (Z0a (Z0h Z5e (pv 4) (pv 2)) (Z0a (Z0h Z0u (pv 4) (pv 2)) Z0d))) Z0d)))
   (@Z0g _ _ _ (Z0y (PW.pt (Z6q (Z0o Z9w (pv 1) Z0b (nomark _)) (Z4q (Z0o Z1u (pv 4) Z0b (nomark _)))))
    (@Z0e _ _ _ _ _ (Z2z (i:=3) rfl nd rfl rfl (LcOk.of (Nc:=["_law_j","_law_script","_law_cells"]) (mp:=[none,some 0,some 1]) (by kernel_rfl)) (Z0w rfl B.range (Z0a Z0b Z0d)) (fun _ _ _ _=>(Z0m (i:=0) (show (["_law_j","_law_script","_law_cells"]:List Str).Nodup by decide +kernel) rfl (Or.inl rfl))) (fun _ _ _ _=>(Z2k Y9i (Z0k c__law_mark_by hr rfl (Z0a (Z0k c__law_cell_at hr rfl (Z0a (pv 1) (Z0a (Z0h Z1c Z0b (pv 0)) Z0d))) (Z0a (pv 2) Z0d))) (Z2j Z0b) Z4d)) rfl)
    (@Z0g _ _ _ (Z0j (Z3k rfl (LcOk.of (Nc:=["_law_j","_law_f","_law_s"]) (mp:=[none,none,none]) (by kernel_rfl)) (Z5m rfl B.enumerate (Z0a (pv 3) Z0d)) (fun _ _ _ _=>(Y9t rfl (show (["_law_j","_law_f","_law_s"]:List Str).Nodup by decide +kernel) rfl rfl rfl rfl rfl rfl)) (fun _ _ _ _=>(@Z0z _ _ _ _ _ (Z0a (Z0h Z4r (pv 1) (Z0h Z0u (pv 0) Z0b)) (Z0a (pv 2) Z0d))))))))
    Z0p))))
  (@Z0g _ _ _ (Z0j (pv 3)))))),?_⟩
 try dsimp only[cxK]
 refine⟨fun σ' H'=>H'=H/\σ'=[some (.ref a),some (.int c),some (.int ((2^c:Nat):Int)),none,none],⟨_,rfl,_,_,rfl,rfl,⟨1,sz1,by omega,by omega⟩,rfl,by rw[<-ipow c];rfl⟩,?_⟩
 rintro σ0 H0 ⟨rfl,rfl⟩
 refine⟨Nat.zero_le _,fun lf hlf=>?_⟩
 have s0:=Z0f hlf (.lst [])
 have eN:(((2^c:Nat):Int)*((2^c:Nat):Int)).toNat=2^c*2^c:=by rw[<-Int.natCast_mul,Int.toNat_natCast]
 have pN:2^c*2^c<=64*64:=Nat.mul_le_mul p6 p6
 have eI:((2^c:Nat):Int)*((2^c:Nat):Int)=((2^c*2^c:Nat):Int):=by rw[Int.natCast_mul]
 refine⟨_,rfl,_,rfl,_,_,rfl,rfl,⟨7,7,szc c6,szc c6,by decide⟩,_,rfl,by rw[eI];omega,by rw[eI];omega,?_⟩
 rw[eN]
 refine Z1i (n:=2^c*2^c) (fun i σ H'=>Same H0 H'/\∃ (qs:List Addr) (W:Ws) (v4:Option V),H' lf=some (.lst (qs.map V.ref))/\Prs H' qs W/\Low c W/\W.length=i/\(3<c->i<=15)/\σ=[some (.ref a),some (.int c),some (.int ((2^c:Nat):Int)),some (.ref lf),v4])
  ⟨s0,[],[],_,Z0c,.nil,fun _ z=>(nomatch z),rfl,fun _=>by omega,rfl⟩ ?_ ?_
 ·rintro i σ H1 hi ⟨S1,qs,W,v4,a1,P1,L1,wl,i15,rfl⟩
  have e0:(0:Int)+(i:Int)=(i:Int):=Int.zero_add _
  refine⟨_,rfl,.inl ⟨rfl,_,SqL.of a1⟩,_,rfl,_,rfl,_,_,rfl,rfl,⟨by omega,(szc c6).mono (by decide)⟩,_,rfl,_,rfl,_,_,rfl,rfl,by omega,t2,fun t ht=>?_⟩
  have ed:Int.fdiv (0+(i:Int)) ((2^c:Nat):Int)=((i / 2^c:Nat):Int):=by rw[e0,Int.fdiv_eq_ediv_of_nonneg _ (by omega)];rfl
  have em:(0+(i:Int))%((2^c:Nat):Int)=((i%2^c:Nat):Int):=by rw[e0];rfl
  have s2:=Z0f ht (.tup [.int (Int.fdiv (0+(i:Int)) ((2^c:Nat):Int)),.int ((0+(i:Int))%((2^c:Nat):Int))])
  have a2:=s2 _ _ a1
  have n2:upd H1 t (.tup [.int (Int.fdiv (0+(i:Int)) ((2^c:Nat):Int)),.int ((0+(i:Int))%((2^c:Nat):Int))]) t=some (.tup [.int ((i / 2^c:Nat):Int),.int ((i%2^c:Nat):Int)]):=by rw[Z0c,ed,em]
  refine⟨lf,_,_,rfl,rfl,a2,(by rw[List.length_map,P1.length,wl];exact Nat.lt_of_lt_of_le (show i<5000 by omega) (by decide)),?_⟩
  generalize upd H1 t (.tup [.int (Int.fdiv (0+(i:Int)) ((2^c:Nat):Int)),.int ((0+(i:Int))%((2^c:Nat):Int))])=H2 at *
  have S3:Same H0 (upd H2 lf (.lst (qs.map V.ref++[.ref t]))):=Z0s (S1.trans s2) hlf
  have a3:upd H2 lf (.lst (qs.map V.ref++[.ref t])) lf=some (.lst ((qs++[t]).map V.ref)):=by rw[Z0c,List.map_append];rfl
  have P3:Prs (upd H2 lf (.lst (qs.map V.ref++[.ref t]))) (qs++[t]) (W++[(i / 2^c,i%2^c)]):=Prs.upd (Prs.snoc (P1.same s2) n2) a2
  have L3':Low c (W++[(i / 2^c,i%2^c)]):=L1.snoc (Nat.div_lt_of_lt_mul hi) (Nat.mod_lt _ p0)
  generalize upd H2 lf (.lst (qs.map V.ref++[.ref t]))=H3 at *
  have go:(3<c->i+1<=15)->Same H0 H3/\∃ (qs:List Addr) (W:Ws) (u4:Option V),H3 lf=some (.lst (qs.map V.ref))/\Prs H3 qs W/\Low c W/\W.length=i+1/\(3<c->i+1<=15)/\[some (V.ref a),some (V.int c),some (V.int ((2^c:Nat):Int)),some (V.ref lf),some (V.int (0+(i:Int)))]=[some (.ref a),some (.int c),some (.int ((2^c:Nat):Int)),some (.ref lf),u4] :=
   fun z=>⟨S3,_,_,_,a3,P3,L3',by rw[List.length_append,wl];rfl,z,rfl⟩
  refine⟨_,rfl,_,_,rfl,rfl,_,rfl,decI (fun c3=>?_) (fun c3=>go fun z=>by omega)⟩
  refine⟨_,rfl,rfl,_,rfl,eqI (fun ei=>?_) (fun ei=>go fun z=>by have:=i15 z;omega)⟩
  refine⟨_,rfl,by decide,by decide,fun acc hacc=>?_⟩
  refine Z3s (n:=16) (fr:=[some (.ref a),some (.int c)]) (fun j ys H'=>Same H3 H'/\H' acc=some (.lst ys)/\∃ (us:List Addr) (U:Ws),ys=us.map V.ref/\Prs H' us U/\Low c U) (by decide)
   ⟨Z0f hacc _,Z0c,[],[],rfl,.nil,fun _ z=>(nomatch z)⟩ ?_ ?_
  ·rintro j ys H4 N hj hy ⟨S4,a4,us,U,rfl,P4,L4⟩ kN
   refine⟨_,rfl,_,rfl,_,_,rfl,rfl,a,ns,_,rfl,(S3.trans S4).seq SA,by omega,_,rfl,_,c,rfl,c6,fun r H5 q ff ss S5 hr5 q4 fl sl=>?_⟩
   refine⟨_,rfl,r,_,rfl,SqT.of hr5,.inr ⟨fun z=>absurd z.1 (by rw[Z7q];decide),fun t' ht'=>?_⟩⟩
   have s6:=Z0f ht' (.tup (cutV [V.int q,.int ff,.int ss] (some 1) none))
   have a6:=s6 _ _ (S5 _ _ a4)
   refine kN _ _ a6 ⟨Z0s ((S4.trans S5).trans s6) hacc,Z0c,us++[t'],U++[(ff,ss)],by rw[List.map_append];rfl,Prs.upd (Prs.snoc ((P4.same S5).same s6) ?_) a6,L4.snoc fl sl⟩
   rw[Z0c,Y1t]
  rintro ys H4 hy ⟨S4,a4,us,U,rfl,P4,L4⟩
  have lu:us.length=16:=by rw[List.length_map] at hy;exact hy
  have SU:SqL K H4 acc (us.map V.ref):=SqL.of a4
  refine⟨_,rfl,acc,_,rfl,SU,fun acc2 hacc2=>?_⟩
  refine X1a (K:=K) (a:=acc) (xs:=us.map V.ref) (fr:=[]) (fun j ys H'=>Same H4 H'/\H' acc2=some (.lst ys)/\∃ (vs:List Addr) (U':Ws),ys=vs.map V.ref/\Prs H' vs U'/\Low c U') (by rw[List.length_map,lu];decide)
   ⟨Z0f hacc2 _,Z0c,[],[],rfl,.nil,fun _ z=>(nomatch z)⟩ (fun j ys H' e=>e.1.seq SU) ?_ ?_
  ·rintro j x ys H5 T N w1 w2 w3 hx hy' ⟨S5,a5,vs,U',rfl,P5,L5⟩ hT kN
   rw[List.getElem?_map] at hx
   obtain⟨p,hp,rfl⟩:=Option.map_eq_some_iff.mp hx
   obtain⟨⟨ff,ss⟩,hU,pp'⟩:=P4.get hp
   obtain⟨fl,sl⟩:=L4 (ff,ss) (List.mem_of_getElem? hU)
   have sT:=Z0f hT (.tup [.int j,.ref p])
   have p5:=sT _ _ (S5 _ _ pp')
   have hTT:upd H5 T (.tup [.int j,.ref p]) T=some (.tup [.int j,.ref p]):=Z0c
   generalize upd H5 T (.tup [.int j,.ref p])=H6 at *
   refine⟨T,_,rfl,SqT.of hTT,rfl,_,_,rfl,_,_,rfl,p,_,rfl,SqT.of p5,rfl,_,_,rfl,_,_,rfl,rfl,rfl,?_⟩
   have fz:Sz 7 (ff:Int):=by unfold Sz;rw[Int.natAbs_natCast];omega
   have jz:Sz 2 ((j:Int)%2):=by unfold Sz;omega
   refine⟨_,rfl,_,rfl,_,_,rfl,rfl,Z2p,_,_,rfl,rfl,⟨7,2,fz,jz,by decide⟩,_,rfl,t2,fun t' ht'=>?_⟩
   have s7:=Z0f ht' (.tup [.int ((ff:Int)*((j:Int)%2)),.int ss])
   have a7:=s7 _ _ (sT _ _ a5)
   refine kN _ _ _ _ _ a7 ⟨Z0s ((S5.trans sT).trans s7) hacc2,Z0c,vs++[t'],U'++[(ff*(j%2),ss)],by rw[List.map_append];rfl,Prs.upd (Prs.snoc ((P5.same sT).same s7) ?_) a7,L5.snoc ?_ sl⟩
   ·rw[Z0c]
    show some (HO.tup [.int ((ff:Int)*((j:Int)%2)),.int ss])=some (HO.tup [.int ((ff*(j%2):Nat):Int),.int ss])
    rw[Int.natCast_mul]
    rfl
   ·show ff*(j%2)<2^c
    have:j%2=0∨j%2=1:=by omega
    rcases this with z | z<;>rw[z]<;>omega
  ·rintro ys H5 hy' ⟨S5,a5,vs,U',rfl,P5,L5⟩
   exact kq acc2 H5 vs U' ((S3.trans S4).trans S5) a5 P5 L5
 ·rintro σ H1 ⟨S1,qs,W,v4,a1,P1,L1,wl,i15,rfl⟩
  exact⟨_,rfl,kq lf H1 qs W S1 a1 P1 L1⟩
end
end K62
set_option maxRecDepth 10000
namespace K14
open L2 (Sz)
def Pos (t r:Int):Prop:=(0<t/\2*r*r<t*t)∨(0<r/\t*t<2*r*r)
theorem Y2l:∀ (n:Nat) (a b:Int),b.natAbs<n->a*a=2*b*b->a=0/\b=0
 | 0,_,_,h,_=>by omega
 | n+1,a,b,h,e=>by
  by_cases hb:b=0
  ·subst hb
   have e':a*a=0:=by simpa using e
   exact⟨(Int.mul_eq_zero.mp e').elim id id,rfl⟩
  ·have e2:a%2=0:=by
    rcases Int.emod_two_eq a with h0 | h1
    ·exact h0
    ·exfalso
     have:(a*a)%2=1:=by rw[Int.mul_emod,h1];rfl
     rw[e,Int.mul_assoc] at this
     omega
   obtain⟨c,rfl⟩:∃ c,a=2*c:=⟨a / 2,by omega⟩
   have e3:b*b=2*c*c:=by grind
   have hlt:c.natAbs<b.natAbs:=by
    have h1:b.natAbs*b.natAbs=2*(c.natAbs*c.natAbs):=by
     have:=congrArg Int.natAbs e3
     rw[Int.natAbs_mul,Int.mul_assoc,Int.natAbs_mul,Int.natAbs_mul] at this
     simpa using this
    have hb':0<b.natAbs:=by omega
    apply Nat.lt_of_not_le
    intro hle
    have h2:b.natAbs*b.natAbs<=c.natAbs*c.natAbs:=Nat.mul_le_mul hle hle
    have h3:0<b.natAbs*b.natAbs:=Nat.mul_pos hb' hb'
    omega
   have:=Y2l n b c (by omega) e3
   exact absurd this.1 hb
theorem root2 {a b:Int}(e:a*a=2*b*b):a=0/\b=0:=Y2l _ a b (Nat.lt_succ_self _) e
theorem Z3u {u v:Int}(hu:0<u)(h:v*v<u*u):0<u+v:=by
 apply Int.lt_of_not_ge
 intro hle
 have h1:0<=-v-u:=by omega
 have h2:0<=(-v-u)*(-v+u):=Int.mul_nonneg h1 (by omega)
 grind
theorem Pos.zero:¬ Pos 0 0:=by unfold Pos;omega
theorem Z5u {u v:Int}(hu:0<u)(h:v*v<u*u):0<u+v/\0<u-v:=by
 constructor
 ·exact Z3u hu h
 ·have:=Z3u (v:=-v) hu (by grind)
  omega
theorem Z1h (a:Int):0<=a*a:=by
 rcases Int.le_total 0 a with h | h
 ·exact Int.mul_nonneg h h
 ·exact Int.mul_nonneg_of_nonpos_of_nonpos h h
theorem big1 {a b c d:Int}(ha:0<a)(hc:0<c)(h1:2*b*b<a*a)(h2:2*d*d<c*c):0<a*c+2*b*d/\0<a*c-2*b*d:=by
 have hac:0<a*c:=Int.mul_pos ha hc
 have p1:0<(a*a-2*b*b)*(c*c):=Int.mul_pos (by omega) (Int.mul_pos hc hc)
 have p2:0<=(b*b)*(c*c-2*d*d):=Int.mul_nonneg (Z1h b) (by omega)
 exact Z5u hac (by grind)
theorem big2 {a b c d:Int}(hb:0<b)(hd:0<d)(h1:a*a<2*b*b)(h2:c*c<2*d*d):0<2*b*d+a*c/\0<2*b*d-a*c:=by
 have hbd:0<2*b*d:=Int.mul_pos (by omega) hd
 have p1:0<(2*b*b-a*a)*(d*d):=Int.mul_pos (by omega) (Int.mul_pos hd hd)
 have p2:0<=(a*a)*(2*d*d-c*c):=Int.mul_nonneg (Z1h a) (by omega)
 exact Z5u hbd (by grind)
theorem big3 {a b c d:Int}(ha:0<a)(hd:0<d)(h1:2*b*b<a*a)(h2:c*c<2*d*d):0<a*d+b*c:=by
 have had:0<a*d:=Int.mul_pos ha hd
 have p1:0<(a*a-2*b*b)*(d*d):=Int.mul_pos (by omega) (Int.mul_pos hd hd)
 have p2:0<=(b*b)*(2*d*d-c*c):=Int.mul_nonneg (Z1h b) (by omega)
 exact Z3u had (by grind)
theorem Pos.mul {a b c d:Int}(x:Pos a b)(y:Pos c d):Pos (a*c+2*b*d) (a*d+b*c):=by
 rcases x with ⟨ha,n1⟩ | ⟨hb,n1⟩
 ·rcases y with ⟨hc,n2⟩ | ⟨hd,n2⟩
  ·have p:0<(a*a-2*b*b)*(c*c-2*d*d):=Int.mul_pos (by omega) (by omega)
   exact .inl ⟨(big1 ha hc n1 n2).1,by grind⟩
  ·have p:0<(a*a-2*b*b)*(2*d*d-c*c):=Int.mul_pos (by omega) (by omega)
   exact .inr ⟨big3 ha hd n1 n2,by grind⟩
 ·rcases y with ⟨hc,n2⟩ | ⟨hd,n2⟩
  ·have p:0<(2*b*b-a*a)*(c*c-2*d*d):=Int.mul_pos (by omega) (by omega)
   have q:=big3 hc hb n2 n1
   exact .inr ⟨by grind,by grind⟩
  ·have p:0<(2*b*b-a*a)*(2*d*d-c*c):=Int.mul_pos (by omega) (by omega)
   have q:=(big2 hb hd n1 n2).1
   exact .inl ⟨by grind,by grind⟩
end K14
namespace K15n
open L2 Am K14
def tt (a b c d:Int):Int:=a*a+b*b+c*c+d*d
def rr (a b c d:Int):Int:=a*b+b*c+c*d-d*a
theorem Y9h (a b c d a' b' c' d':Int):tt (a*a'-d*b'-c*c'-b*d') (b*a'+a*b'-d*c'-c*d') (c*a'+b*b'+a*c'-d*d') (d*a'+c*b'+b*c'+a*d')=tt a b c d*tt a' b' c' d'+2*rr a b c d*rr a' b' c' d':=by
 unfold tt rr;grind
theorem Y9m (a b c d a' b' c' d':Int):rr (a*a'-d*b'-c*c'-b*d') (b*a'+a*b'-d*c'-c*d') (c*a'+b*b'+a*c'-d*d') (d*a'+c*b'+b*c'+a*d')=tt a b c d*rr a' b' c' d'+rr a b c d*tt a' b' c' d':=by
 unfold tt rr;grind
theorem norm4 (a b c d:Int):tt a b c d*tt a b c d-2*rr a b c d*rr a b c d=(a*a-c*c+2*b*d)*(a*a-c*c+2*b*d)+(2*a*c-b*b+d*d)*(2*a*c-b*b+d*d):=by
 unfold tt rr;grind
theorem sq0 {x:Int}(h:x*x=0):x=0:=by rcases Int.mul_eq_zero.mp h with h | h<;>exact h
theorem norm0 {a b c d:Int}(hA:a*a-c*c+2*b*d=0)(hB:2*a*c-b*b+d*d=0):a=0/\b=0/\c=0/\d=0:=by
 have e1:(a*b+c*d)*(a*b+c*d)=(b*c-a*d)*(b*c-a*d):=by grind
 have e2:2*(a*b+c*d)*(b*c-a*d)=(b*b+d*d)*(b*b+d*d):=by grind
 have n0:0<=b*b+d*d:=Int.add_nonneg (Z1h b) (Z1h d)
 have e3:(2*(a*b+c*d)*(a*b+c*d))*(2*(a*b+c*d)*(a*b+c*d))=((b*b+d*d)*(b*b+d*d))*((b*b+d*d)*(b*b+d*d)):=by
  rw[<-e2]
  have:(2*(a*b+c*d)*(a*b+c*d))*(2*(a*b+c*d)*(a*b+c*d))=4*((a*b+c*d)*(a*b+c*d))*((a*b+c*d)*(a*b+c*d)):=by grind
  rw[this]
  have h2:2*(a*b+c*d)*(b*c-a*d)*(2*(a*b+c*d)*(b*c-a*d))=4*((a*b+c*d)*(a*b+c*d))*((b*c-a*d)*(b*c-a*d)):=by grind
  rw[h2,<-e1]
 have p0:0<=2*(a*b+c*d)*(a*b+c*d):=by
  have:=Z1h (a*b+c*d)
  have e:2*(a*b+c*d)*(a*b+c*d)=2*((a*b+c*d)*(a*b+c*d)):=by grind
  rw[e];omega
 have q0:0<=(b*b+d*d)*(b*b+d*d):=Z1h _
 have e4:(b*b+d*d)*(b*b+d*d)=2*(a*b+c*d)*(a*b+c*d):=by
  generalize 2*(a*b+c*d)*(a*b+c*d)=u at *
  generalize (b*b+d*d)*(b*b+d*d)=v at *
  rcases Int.lt_trichotomy u v with h | h | h
  ·have h1:u*u<=u*v:=Int.mul_le_mul_of_nonneg_left (Int.le_of_lt h) p0
   have h2:u*v<v*v:=Int.mul_lt_mul_of_pos_right h (by omega)
   omega
  ·exact h.symm
  ·have h1:v*v<=v*u:=Int.mul_le_mul_of_nonneg_left (Int.le_of_lt h) q0
   have h2:v*u<u*u:=Int.mul_lt_mul_of_pos_right h (by omega)
   omega
 have r:=root2 e4
 have hb:=Z1h b
 have hd:=Z1h d
 have b0:b=0:=sq0 (by omega)
 have d0:d=0:=sq0 (by omega)
 subst b0 d0
 have hac:a*c=0:=by grind
 have haa:a*a=c*c:=by grind
 rcases Int.mul_eq_zero.mp hac with h | h
 ·subst h
  exact⟨rfl,rfl,sq0 (by omega),rfl⟩
 ·subst h
  exact⟨sq0 (by omega),rfl,rfl,rfl⟩
theorem Z7h {a b c d:Int}(h:¬ (a=0/\b=0/\c=0/\d=0)):Pos (tt a b c d) (rr a b c d):=by
 have n:=norm4 a b c d
 have hA:=Z1h (a*a-c*c+2*b*d)
 have hB:=Z1h (2*a*c-b*b+d*d)
 have s1:=Z1h a
 have s2:=Z1h b
 have s3:=Z1h c
 have s4:=Z1h d
 have tpos:0<tt a b c d:=by
  unfold tt
  apply Classical.byContradiction
  intro hn
  exact h ⟨sq0 (by omega),sq0 (by omega),sq0 (by omega),sq0 (by omega)⟩
 refine .inl ⟨tpos,?_⟩
 apply Classical.byContradiction
 intro hn
 generalize hX:a*a-c*c+2*b*d=X at *
 generalize hY:2*a*c-b*b+d*d=Y at *
 have x0:X=0:=sq0 (by omega)
 have y0:Y=0:=sq0 (by omega)
 subst x0 y0
 exact h (norm0 hX hY)
end K15n
namespace K62
open PySem PySem.Spec PyProof.Rows L2 Am Pc Ba
abbrev Zz:A5:=((0,0,0,0),0)
theorem Y2z:∀ k,rot k (0,0,0,0)=(0,0,0,0)
 | 0=>rfl
 | k+1=>by
  have e:rot (k+1) (0,0,0,0)=M82.nx (rot k (0,0,0,0)):=rfl
  rw[e,Y2z k]
  rfl
theorem Y5n (k:Int):spin Zz k=Zz:=by unfold spin;rw[Y2z]
theorem Y1z:Amt 0 0 0 0 0:=⟨Int.le_refl 0,.inl rfl⟩
theorem Y3o (s:Int):Mix s Zz Zz Zz:=by
 refine⟨Zz,⟨Y1z,⟨?_,?_,?_,?_⟩,by decide⟩,Y1z,⟨?_,?_,?_,?_⟩⟩<;>(unfold Eq2;simp)
theorem Y5l (c:Nat)(m:Gm):Step c m (fun _=>Zz) (fun _=>Zz):=by
 cases m with
 | mv v=>exact fun w _=>(Y5n _).symm
 | mix a =>
  intro w _
  unfold MixAt
  split
  ·exact Y3o 1
  ·exact Y3o (-1)
theorem Y2k {c:Nat}(hc:c<=6):∀ {ms:List Gm}{f g:Nat->A5},(∀ m∈ms,m.Ok c)->Ams c f->Steps c ms f g->(∀ w,w<2^c->g w=Zz)->∀ w,w<2^c->f w=Zz
 | [],_,_,_,_,.nil,z=>z
 | m::ms,f,h,ok,af,.cons (g:=g) s r,z=>by
  have okm:=ok m (.head _)
  have ih:=Y2k hc (fun x hx=>ok x (.tail _ hx)) (s.ams hc okm af) r z
  intro w hw
  exact(Y5m hc okm af s (k:=fun _=>Zz) (h:=fun _=>Zz) (fun w hw=>(ih w hw).symm) (Y5l c m.back) w hw).symm
structure Prd (x y z:A5):Prop where
 amt:Amt z.1.1 z.1.2.1 z.1.2.2.1 z.1.2.2.2 z.2
 same:Same4 (x.1.1*y.1.1-x.1.2.1*y.1.2.2.2-x.1.2.2.1*y.1.2.2.1-x.1.2.2.2*y.1.2.1) (x.1.1*y.1.2.1+x.1.2.1*y.1.1-x.1.2.2.1*y.1.2.2.2-x.1.2.2.2*y.1.2.2.1)
  (x.1.1*y.1.2.2.1+x.1.2.1*y.1.2.1+x.1.2.2.1*y.1.1-x.1.2.2.2*y.1.2.2.2) (x.1.1*y.1.2.2.2+x.1.2.1*y.1.2.2.1+x.1.2.2.1*y.1.2.1+x.1.2.2.2*y.1.1) (x.2+y.2) z.1.1 z.1.2.1 z.1.2.2.1 z.1.2.2.2 z.2
 le:z.2<=x.2+y.2
def Z9i (K:PySem.W.Frag):Sp:=fun vs H Q _=>∃ (p q:Addr) (x y:A5) (n m:Nat),vs=[.ref p,.ref q]/\At5 K H p x/\H q=some (tA y)/\Ok5 n m x/\Ok5 n m y/\n<=100000 ∧
 ∀ (r:Addr) (H':Hp) (z:A5),Same H H'->H' r=some (tA z)->Prd x y z->Ok5 (2*n+4) (2*m:Nat) z->Q (.ref r) H'
theorem Z6e {x h:Int}(e:Eq2 x h 0 0):x=0:=by
 unfold Eq2 at e
 have:p2 0=1:=rfl
 rw[this] at e
 omega
theorem X8h {x:A5}(a:Amt x.1.1 x.1.2.1 x.1.2.2.1 x.1.2.2.2 x.2)(n:x≠Zz):¬ (x.1.1=0/\x.1.2.1=0/\x.1.2.2.1=0/\x.1.2.2.2=0):=fun h=>n (by
 have o:=a.odd
 obtain⟨h1,h2,h3,h4⟩:=h
 exact X2v ⟨h1,h2,h3,h4,by show x.2=0;omega⟩)
theorem Prd.nz {x y z:A5}(p:Prd x y z)(ax:Amt x.1.1 x.1.2.1 x.1.2.2.1 x.1.2.2.2 x.2)(ay:Amt y.1.1 y.1.2.1 y.1.2.2.1 y.1.2.2.2 y.2)(nx:x≠Zz)(ny:y≠Zz):z≠Zz:=fun e=>by
 have s:=p.same
 subst e
 have e1:=Z6e s.e1
 have e2:=Z6e s.e2
 have e3:=Z6e s.e3
 have e4:=Z6e s.e4
 have px:=K15n.Z7h (X8h ax nx)
 have py:=K15n.Z7h (X8h ay ny)
 have pm:=K14.Pos.mul px py
 have t:=K15n.Y9h x.1.1 x.1.2.1 x.1.2.2.1 x.1.2.2.2 y.1.1 y.1.2.1 y.1.2.2.1 y.1.2.2.2
 have r:=K15n.Y9m x.1.1 x.1.2.1 x.1.2.2.1 x.1.2.2.2 y.1.1 y.1.2.1 y.1.2.2.1 y.1.2.2.2
 have g1:x.1.1*y.1.1-x.1.2.2.2*y.1.2.1-x.1.2.2.1*y.1.2.2.1-x.1.2.1*y.1.2.2.2=0:=by omega
 have g2:x.1.2.1*y.1.1+x.1.1*y.1.2.1-x.1.2.2.2*y.1.2.2.1-x.1.2.2.1*y.1.2.2.2=0:=by omega
 have g3:x.1.2.2.1*y.1.1+x.1.2.1*y.1.2.1+x.1.1*y.1.2.2.1-x.1.2.2.2*y.1.2.2.2=0:=by omega
 have g4:x.1.2.2.2*y.1.1+x.1.2.2.1*y.1.2.1+x.1.2.1*y.1.2.2.1+x.1.1*y.1.2.2.2=0:=by omega
 rw[g1,g2,g3,g4] at t r
 rw[<-t,<-r] at pm
 exact K14.Pos.zero (by simpa [K15n.tt,K15n.rr] using pm)
def tstep (x y:List Int)(j k:Nat)(l:List Int):List Int:=l.set ((j+k)%4) (l.getD ((j+k)%4) 0+(1-2*(((j+k) / 4:Nat):Int))*x.getD j 0*y.getD k 0)
def trow (x y:List Int)(j:Nat):Nat->List Int->List Int
 | 0,l=>l
 | k+1,l=>tstep x y j k (trow x y j k l)
def tall (x y:List Int):Nat->List Int
 | 0=>[0,0,0,0]
 | j+1=>trow x y j 4 (tall x y j)
theorem Y5i (x y:List Int)(j k:Nat)(l:List Int):(tstep x y j k l).length=l.length:=List.length_set
theorem Z8b (x y:List Int)(j:Nat):∀ (k:Nat) (l:List Int),(trow x y j k l).length=l.length
 | 0,l=>rfl
 | k+1,l=>by
  show (tstep x y j k (trow x y j k l)).length=_
  rw[Y5i,Z8b]
theorem Y2g (x y:List Int):∀ j,(tall x y j).length=4
 | 0=>rfl
 | j+1=>by
  show (trow x y j 4 (tall x y j)).length=_
  rw[Z8b,Y2g]
theorem X3b (a b c d a' b' c' d':Int):tall [a,b,c,d] [a',b',c',d'] 4=[a*a'-b*d'-c*c'-d*b',a*b'+b*a'-c*d'-d*c',a*c'+b*b'+c*a'-d*d',a*d'+b*c'+c*b'+d*a']:=by
 simp[tall,trow,tstep,Int.neg_mul,Int.sub_eq_add_neg]
theorem Z8q {n i:Nat}(h:i<n):ixN n (i:Int)=some i:=by
 unfold ixN
 rw[if_pos (by omega),if_pos (by omega),Int.toNat_natCast]
theorem X1s {l:List Int}{i:Nat}(h:i<l.length):atI (l.map V.int) (i:Int)=some (.int (l.getD i 0)):=by
 unfold atI
 rw[Z8q (by rw[List.length_map];exact h),Option.bind_some,List.getElem?_map,List.getElem?_eq_getElem h]
 simp[List.getD,List.getElem?_eq_getElem h]
def Y5r (K:PySem.W.Frag):Sp:=fun vs H Q _=>∃ (a:Addr) (ns:List Int) (c:Nat),vs=[.ref a,.int c]/\SqL K H a (ns.map V.int)/\ns.length<=63/\1<=c/\c<=6 ∧
 ∀ (r:Addr) (H':Hp) (rp:List Addr) (ms:List Gm),Same H H'->Rw H' r rp ms c->ms.length=ns.length->Q (.ref r) H'
theorem X1h {m:Gm}(h:m.nm="cross"):∃ a b d,m=.mv (.cross a b d):=by
 cases m with
 | mix a=>exact absurd (show ("mix":Str)="cross" from h) (by decide +kernel)
 | mv v =>
  cases v with
  | cross a b d=>exact⟨a,b,d,rfl⟩
  | flip a=>exact absurd (show ("flip":Str)="cross" from h) (by decide +kernel)
  | turn a k=>exact absurd (show ("turn":Str)="cross" from h) (by decide +kernel)
  | iff a b=>exact absurd (show ("if":Str)="cross" from h) (by decide +kernel)
  | pair a b=>exact absurd (show ("pair":Str)="cross" from h) (by decide +kernel)
  | swap a b=>exact absurd (show ("swap":Str)="cross" from h) (by decide +kernel)
theorem X5m {m:Gm}(h:m.nm="turn"):∃ a k,m=.mv (.turn a k):=by
 cases m with
 | mix a=>exact absurd (show ("mix":Str)="turn" from h) (by decide +kernel)
 | mv v =>
  cases v with
  | turn a k=>exact⟨a,k,rfl⟩
  | flip a=>exact absurd (show ("flip":Str)="turn" from h) (by decide +kernel)
  | cross a b d=>exact absurd (show ("cross":Str)="turn" from h) (by decide +kernel)
  | iff a b=>exact absurd (show ("if":Str)="turn" from h) (by decide +kernel)
  | pair a b=>exact absurd (show ("pair":Str)="turn" from h) (by decide +kernel)
  | swap a b=>exact absurd (show ("swap":Str)="turn" from h) (by decide +kernel)
section
variable {P:Program}{w:World}{K:PySem.W.Frag}{mg:Str->Option Value}{base:Heap}{k:Nat}{h:Heap}
theorem sc_ltimes:FnScope ["_law_one","_law_other","_law_parts","_law_j","_law_k","_law_at","_law_sign"] ["_law_one","_law_other"] (Z0i (top 78)):=fS
theorem Y6y (F:FunAt K "_law_times" (top 78) .none)(X:K.In h)(G:h.Ns mainGlobals mg)(B:Bs mg)(c__law_low:Cal P w K mg base k "_law_low" ["_law_parts","_law_h"] spLow):Cal P w K mg base (k+1) "_law_times" ["_law_one","_law_other"] (Z9i K):=by
 have nd:=sc_ltimes.nd
 refine F.cal X G sc_ltimes (bnd2 fun _ _ _ _ _ _ _ _=>rfl) (fun vs H Q E h=>?_) (fun f cdv A outer s H vs Q E hr h=>?_)
 ·obtain⟨p,q,x,y,n,m,rfl,_⟩:=h;rfl
 obtain⟨p,q,x,y,n,m,rfl,hp,hq,ox,oy,n1,kq⟩:=h
 obtain⟨⟨a,b,c,d⟩,h⟩:=x
 obtain⟨⟨a',b',c',d'⟩,h'⟩:=y
 have hx0:0<=h:=ox.amt.nn
 have hy0:0<=h':=oy.amt.nn
 have S1:SqT K H p [.int a,.int b,.int c,.int d,.int h]:=hp
 have S2:SqT K H q [.int a',.int b',.int c',.int d',.int h']:=SqT.of hq
 have gx:∀ i:Nat,i<4->atI [V.int a,.int b,.int c,.int d,.int h] (0+(i:Int))=some (.int ([a,b,c,d].getD i 0))/\Sz n ([a,b,c,d].getD i 0):=fun i hi=>by
  have:i=0∨i=1∨i=2∨i=3:=by omega
  rcases this with rfl | rfl | rfl | rfl
  ·exact⟨rfl,ox.sz.z1⟩
  ·exact⟨rfl,ox.sz.z2⟩
  ·exact⟨rfl,ox.sz.z3⟩
  ·exact⟨rfl,ox.sz.z4⟩
 have gy:∀ i:Nat,i<4->atI [V.int a',.int b',.int c',.int d',.int h'] (0+(i:Int))=some (.int ([a',b',c',d'].getD i 0))/\Sz n ([a',b',c',d'].getD i 0):=fun i hi=>by
  have:i=0∨i=1∨i=2∨i=3:=by omega
  rcases this with rfl | rfl | rfl | rfl
  ·exact⟨rfl,oy.sz.z1⟩
  ·exact⟨rfl,oy.sz.z2⟩
  ·exact⟨rfl,oy.sz.z3⟩
  ·exact⟨rfl,oy.sz.z4⟩
 refine⟨_,(@Z0e _ _ _ _ _ (@Z0r _ _ 2 _ _ _ _ nd rfl (Or.inl rfl) (@Z3f _ _ _ _ (Z0a Z0b (Z0a Z0b (Z0a Z0b (Z0a Z0b Z0d))))) rfl (.inl rfl))
  (@Z0e _ _ _ _ _ (Z1p PassesOwn.never rfl (Z0w rfl B.range (Z0a Z0b Z0d)) (Z0m (i:=3) nd rfl (Or.inl rfl))
   (@Z0g _ _ _ (Z1p PassesOwn.never rfl (Z0w rfl B.range (Z0a Z0b Z0d)) (Z0m (i:=4) nd rfl (Or.inl rfl))
    (@Z0e _ _ _ _ _ (@Z0r _ _ 5 _ _ _ _ nd rfl (Or.inl rfl) (Z0h Z0u (Z0h Z1c (pv 3) (pv 4)) Z0b) rfl (.inl rfl))
    (@Z0e _ _ _ _ _ (@Z0r _ _ 6 _ _ _ _ nd rfl (Or.inl rfl) (Z0h Z1z Z0b (Z0h Z2y Z0b (Z0h Z1e (Z0h Z1c (pv 3) (pv 4)) Z0b))) rfl (.inl rfl))
    (@Z0g _ _ _ (Z5t (Z0h Z1c (Z0n Z1a (pv 2) (pv 5) (fun _ _=>rfl)) (Z0h Z4r (Z0h Z4r (pv 6) (Z0n Z0l (pv 0) (pv 3) (fun _ _=>rfl))) (Z0n Z0l (pv 1) (pv 4) (fun _ _=>rfl)))) (Z9q (pv 2) (pv 5) Z4w))))))))
  (@Z0g _ _ _ (Z0j (Z0k c__law_low hr rfl (Z0a (pv 2) (Z0a (Z0h Z1c (Z0n Z0l (pv 0) Z0b (fun _ _=>rfl)) (Z0n Z0l (pv 1) Z0b (fun _ _=>rfl))) Z0d))))))),?_⟩
 try dsimp only[cxK]
 refine⟨t4,fun lp hlp=>?_⟩
 refine⟨_,rfl,by decide,by decide,?_⟩
 refine Z1i (n:=4) (fun j σ H'=>Same H H'/\H' lp=some (.lst ((tall [a,b,c,d] [a',b',c',d'] j).map V.int))/\∃ v3 v4 v5 v6,σ=[some (.ref p),some (.ref q),some (.ref lp),v3,v4,v5,v6]) ⟨Z0f hlp _,Z0c,_,_,_,_,rfl⟩ ?_ ?_
 ·rintro j σ H1 hj ⟨s1,a1,v3,v4,v5,v6,rfl⟩
  refine⟨_,rfl,by decide,by decide,?_⟩
  refine Z1i (n:=4) (fun k σ H'=>Same H H'/\H' lp=some (.lst ((trow [a,b,c,d] [a',b',c',d'] j k (tall [a,b,c,d] [a',b',c',d'] j)).map V.int))/\∃ v4 v5 v6,σ=[some (.ref p),some (.ref q),some (.ref lp),some (.int (0+(j:Int))),v4,v5,v6]) ⟨s1,a1,_,_,_,rfl⟩ ?_ ?_
  ·rintro k σ H2 hk ⟨s2,a2,v4,v5,v6,rfl⟩
   obtain⟨ga,za⟩:=gx j hj
   obtain⟨gb,zb⟩:=gy k hk
   have e1:((0+(j:Int))+(0+(k:Int)))%4=(((j+k)%4:Nat):Int):=by omega
   have e2:((0+(j:Int))+(0+(k:Int))) / 4=(((j+k) / 4:Nat):Int):=by omega
   have L:(trow [a,b,c,d] [a',b',c',d'] j k (tall [a,b,c,d] [a',b',c',d'] j)).length=4:=by rw[Z8b,Y2g]
   have zs:Sz 2 (1-2*(((j+k) / 4:Nat):Int)):=by
    have:(j+k) / 4=0∨(j+k) / 4=1:=by omega
    rcases this with z | z<;>rw[z]<;>decide +kernel
   refine⟨_,rfl,_,rfl,_,_,rfl,rfl,_,_,rfl,rfl,(by decide:(0:Int)<4),?_⟩
   refine⟨_,rfl,_,rfl,_,_,rfl,rfl,_,_,rfl,rfl,⟨by decide,by decide⟩,_,_,rfl,rfl,.inl ⟨by decide,by decide⟩,_,_,rfl,rfl,?_⟩
   refine⟨_,rfl,_,rfl,lp,_,_,_,rfl,rfl,SqL.of a2,(by rw[e1];exact X1s (by rw[L];exact Nat.mod_lt _ (by decide))),_,rfl,_,rfl,_,rfl,p,_,_,_,rfl,rfl,s2.tup S1,ga,_,_,rfl,rfl,(by rw[e2];exact⟨_,_,zs,za,by omega⟩),_,rfl,_,rfl,q,_,_,_,rfl,rfl,s2.tup S2,gb,_,_,rfl,rfl,(by rw[e2];exact⟨_,_,zs.mul za,zb,by omega⟩),_,_,rfl,rfl,?_⟩
   refine⟨_,rfl,_,rfl,lp,_,_,_,rfl,rfl,a2,(by rw[e1];exact Z8q (by rw[List.length_map,L];exact Nat.mod_lt _ (by decide))),Z0s s2 hlp,?_,_,_,_,rfl⟩
   rw[Z0c,e2]
   show _=some (HO.lst ((tstep _ _ j k _).map V.int))
   unfold tstep
   rw[List.map_set]
  ·rintro σ H2 ⟨s2,a2,v4,v5,v6,rfl⟩
   exact⟨s2,a2,_,_,_,_,rfl⟩
 ·rintro σ H1 ⟨s1,a1,v3,v4,v5,v6,rfl⟩
  rw[X3b] at a1
  refine⟨_,rfl,_,rfl,p,_,_,_,rfl,rfl,s1.tup S1,rfl,_,rfl,q,_,_,_,rfl,rfl,s1.tup S2,rfl,_,_,rfl,rfl,?_⟩
  refine⟨lp,_,_,_,_,_,rfl,a1,by omega,fun r H' x' y' z' u' v' S' hr' RE=>?_⟩
  have o1:h<=m:=ox.le
  have o2:h'<=m:=oy.le
  have o3:v'<=h+h':=RE.le
  have zx:=ox.sz
  have zy:=oy.sz
  refine kq r H' ((x',y',z',u'),v') (s1.trans S') hr' ⟨RE.amt,RE.same,o3⟩ ⟨RE.sz ⟨?_,?_,?_,?_⟩,RE.amt,by show v'<=_;omega⟩
  ·exact((((zx.z1.mul zy.z1).sub (zx.z2.mul zy.z4)).sub (zx.z3.mul zy.z3)).sub (zx.z4.mul zy.z2)).mono (by omega)
  ·exact((((zx.z1.mul zy.z2).add (zx.z2.mul zy.z1)).sub (zx.z3.mul zy.z4)).sub (zx.z4.mul zy.z3)).mono (by omega)
  ·exact((((zx.z1.mul zy.z3).add (zx.z2.mul zy.z2)).add (zx.z3.mul zy.z1)).sub (zx.z4.mul zy.z4)).mono (by omega)
  ·exact((((zx.z1.mul zy.z4).add (zx.z2.mul zy.z3)).add (zx.z3.mul zy.z2)).add (zx.z4.mul zy.z1)).mono (by omega)
theorem sc_plain:FnScope ["_law_numbers","_law_cells","_law_row","_law_number","_law_move"] ["_law_numbers","_law_cells"] (Z0i (top 80)):=fS
theorem X0g (F:FunAt K "_law_plain_row" (top 80) .none)(X:K.In h)(G:h.Ns mainGlobals mg)(B:Bs mg)(c__law_move_by:Cal P w K mg base k "_law_move_by" ["_law_cell","_law_cells"] Z8e):Cal P w K mg base (k+1) "_law_plain_row" ["_law_numbers","_law_cells"] (Y5r K):=by
 have nd:=sc_plain.nd
 refine F.cal X G sc_plain (bnd2 fun _ _ _ _ _ _ _ _=>rfl) (fun vs H Q E h=>?_) (fun f cdv A outer s H vs Q E hr h=>?_)
 ·obtain⟨a,ns,c,rfl,_⟩:=h;rfl
 obtain⟨a,ns,c,rfl,SA,n63,c1,c6,kq⟩:=h
 refine⟨_,(@Z0e _ _ _ _ _ (@Z0r _ _ 2 _ _ _ _ nd rfl (Or.inl rfl) (@Z3f _ _ _ _ Z0d) rfl (.inl rfl))
  (@Z0e _ _ _ _ _ (Z1p PassesOwn.never rfl (Z1d (pv 0)) (Z0m (i:=3) nd rfl (Or.inl rfl))
   (@Z0e _ _ _ _ _ (@Z0r _ _ 4 _ _ _ _ nd rfl (Or.inl rfl) (Z0k c__law_move_by hr rfl (Z0a (pv 3) (Z0a (pv 1) Z0d))) rfl (.inl rfl))
   (@Z1q _ _ _ _ _ (Z0y (Z0o Z1u (Z0n Z0l (pv 4) Z0b (fun _ _=>rfl)) Z2b (nomark _))
    (@Z0g _ _ _ (@Z0r _ _ 4 _ _ _ _ nd rfl (Or.inl rfl) (@Z0z _ _ _ _ _ (Z0a Z2b (Z0a (Z0n Z0l (pv 4) Z0b (fun _ _=>rfl)) (Z0a (Z0n Z0l (pv 4) Z0b (fun _ _=>rfl)) Z0d)))) rfl (.inl rfl)))
    Z0p)
   (@Z1q _ _ _ _ _ (Z0y (Z0o Z1u (Z0n Z0l (pv 4) Z0b (fun _ _=>rfl)) Z2b (nomark _))
    (@Z0g _ _ _ (@Z0r _ _ 4 _ _ _ _ nd rfl (Or.inl rfl) (@Z0z _ _ _ _ _ (Z0a Z2b (Z0a (Z0n Z0l (pv 4) Z0b (fun _ _=>rfl)) (Z0a (Z0h Z1c Z0b (Z0h Z2y Z0b (Z0h Z0u (Z0h Z1e (Z0n Z0l (pv 4) Z0b (fun _ _=>rfl)) Z0b) Z0b))) Z0d)))) rfl (.inl rfl)))
    Z0p)
   (@Z0g _ _ _ (Z3i (Y1d PySem.F.plainAttrs_list PySem.F.slot_list_append PySem.F.type_list_append Z2m (pv 2) (Z0a (pv 4) Z0d))))))))
  (@Z0g _ _ _ (Z0j (pv 2))))),?_⟩
 try dsimp only[cxK]
 refine⟨Nat.zero_le _,fun lr hlr=>?_⟩
 have s0:=Z0f hlr (.lst [])
 refine⟨_,rfl,a,rfl,⟨_,s0.seq SA⟩,Z2o (K:=K) (a:=a) (xs:=ns.map V.int) (fun i σ H'=>Same H H'/\∃ (rp:List Addr) (ms:List Gm) (v3 v4:Option V),H' lr=some (.lst (rp.map V.ref))/\Mvs H' rp ms/\(∀ m∈ms,m.Ok c)/\ms.length=i/\σ=[some (.ref a),some (.int c),some (.ref lr),v3,v4])
  ⟨s0,[],[],_,_,Z0c,.nil,(by simp),rfl,rfl⟩ (fun i σ H' _ e=>e.1.seq SA) ?_ ?_⟩
 ·rintro i x σ H1 hx ⟨S1,rp,ms,v3,v4,a1,M1,O1,ml,rfl⟩
  have il:i<ns.length:=by have:=(List.getElem?_eq_some_iff.mp hx).1;rw[List.length_map] at this;exact this
  rw[List.getElem?_map] at hx
  obtain⟨cl,hcl,rfl⟩:=Option.map_eq_some_iff.mp hx
  refine⟨_,rfl,_,rfl,cl,c,rfl,c1,c6,fun r H2 nm ns2 S2 hr kinds=>?_⟩
  obtain⟨m,okm,e1,e2⟩:∃ m:Gm,m.Ok c/\nm=m.nm/\ns2=m.ns:=by
   rcases kinds with ⟨rfl,a,ac,rfl⟩ | ⟨v,ok,rfl,rfl⟩
   ·exact⟨.mix a,ac,rfl,rfl⟩
   ·exact⟨.mv v,ok,rfl,rfl⟩
  subst e1 e2
  have SP:SqT K H2 r (.str m.nm::m.ns.map V.int):=SqT.of hr
  refine⟨fun σ H'=>Same H2 H'/\∃ (r:Addr) (m:Gm),H' r=some (MvT m.nm m.ns)/\m.Ok c/\σ=[some (.ref a),some (.int c),some (.ref lr),some (.int cl),some (.ref r)],?_,?_⟩
  ·refine⟨_,rfl,r,_,_,.str m.nm,rfl,rfl,SP,at0,rfl,_,rfl,decI (fun z=>?_) (fun _=>⟨Same.refl _,r,m,hr,okm,rfl⟩)⟩
   obtain⟨x,y,d,rfl⟩:=X1h (V.str.inj z)
   have okm:x<c/\y<c/\d<c/\x≠y/\x≠d/\y≠d:=okm
   refine⟨_,rfl,r,_,_,.int x,rfl,rfl,SP,rfl,_,rfl,r,_,_,.int y,rfl,rfl,SP,rfl,t3,fun t ht=>⟨Z0f ht _,t,.mv (.swap x y),Z0c,⟨okm.1,okm.2.1,okm.2.2.2.1⟩,rfl⟩⟩
  rintro σ H3 ⟨S3,r,m,hr,okm,rfl⟩
  have SP:SqT K H3 r (.str m.nm::m.ns.map V.int):=SqT.of hr
  refine⟨fun σ H'=>Same H3 H'/\∃ (r:Addr) (m:Gm),H' r=some (MvT m.nm m.ns)/\m.Ok c/\σ=[some (.ref a),some (.int c),some (.ref lr),some (.int cl),some (.ref r)],?_,?_⟩
  ·refine⟨_,rfl,r,_,_,.str m.nm,rfl,rfl,SP,at0,rfl,_,rfl,decI (fun z=>?_) (fun _=>⟨Same.refl _,r,m,hr,okm,rfl⟩)⟩
   obtain⟨x,kk,rfl⟩:=X5m (V.str.inj z)
   have okm:x<c/\1<=kk/\kk<=7:=okm
   refine⟨_,rfl,r,_,_,.int x,rfl,rfl,SP,rfl,_,rfl,r,_,_,.int kk,rfl,rfl,SP,rfl,_,_,rfl,rfl,⟨by decide,by decide⟩,_,_,rfl,rfl,(by decide:(0:Int)<3),_,_,rfl,rfl,.inl ⟨by decide,by decide⟩,_,_,rfl,rfl,t3,fun t ht=>⟨Z0f ht _,t,.mv (.turn x (2+2*(kk / 2%3))),?_,⟨okm.1,by omega,by omega⟩,rfl⟩⟩
   rw[Z0c]
   show some (HO.tup [.str "turn",.int x,.int (2+2*((kk:Int) / 2%3))])=some (HO.tup [.str "turn",.int x,.int ((2+2*(kk / 2%3):Nat):Int)])
   rw[show (2+2*((kk:Int) / 2%3))=((2+2*(kk / 2%3):Nat):Int) by omega]
  rintro σ H4 ⟨S4,r,m,hr,okm,rfl⟩
  have S14:=((S1.trans S2).trans S3).trans S4
  have a4:=S4 _ _ (S3 _ _ (S2 _ _ a1))
  refine⟨_,rfl,.inl ⟨rfl,_,SqL.of a4⟩,_,rfl,lr,_,_,rfl,rfl,a4,(by rw[List.length_map,M1.length];exact Nat.lt_of_lt_of_le (show ms.length<64 by omega) (by decide)),?_⟩
  refine⟨Z0s S14 hlr,rp++[r],ms++[m],_,_,(by rw[Z0c,List.map_append];rfl),Mvs.upd (Mvs.snoc (((M1.same S2).same S3).same S4) hr) a4,fun y hy=>?_,by simp[ml],rfl⟩
  rcases List.mem_append.mp hy with q | q
  ·exact O1 y q
  ·rw[List.mem_singleton.mp q];exact okm
 ·rintro σ H1 ⟨S1,rp,ms,v3,v4,a1,M1,O1,ml,rfl⟩
  rw[List.length_map] at ml
  exact⟨_,rfl,kq lr H1 rp ms S1 ⟨a1,M1,O1,by omega⟩ ml⟩
theorem Y4a (ns:List Int)(lo hi:Option Int):∃ ms:List Int,cutV (ns.map V.int) lo hi=ms.map V.int/\ms.length<=ns.length:=by
 unfold cutV
 refine⟨_,by rw[<-List.map_drop,<-List.map_take],?_⟩
 rw[List.length_take,List.length_drop,List.length_map]
 omega
theorem X3l (t:Addr)(n:Nat):(List.replicate n [V.ref t]).flatten=(List.replicate n t).map V.ref:=by
 induction n with
 | zero=>rfl
 | succ n ih=>rw[List.replicate_succ,List.flatten_cons,ih,List.replicate_succ,List.map_cons];rfl
theorem Bv.put {H:Hp}{l p:Addr}{ps:List Addr}{f:Nat->A5}{c j:Nat}{x:A5}(b:Bv H l ps f c)(e:H p=some (tA x)):Bv (upd H l (.lst ((ps.map V.ref).set j (.ref p)))) l (ps.set j p) (fun i=>if i=j then x else f i) c :=
 ⟨by rw[Z0c,List.map_set],by rw[List.length_set];exact b.len,V.Z2t (V.Y2b b.vals e) b.lst⟩
theorem Y1y {c j:Nat}{f:Nat->A5}{x:A5}(h:Ams c f)(a:Amt x.1.1 x.1.2.1 x.1.2.2.1 x.1.2.2.2 x.2):Ams c (fun i=>if i=j then x else f i):=fun w hw=>by
 show Amt (if w=j then x else f w).1.1 _ _ _ _
 by_cases e:w=j
 ·simp only[if_pos e];exact a
 ·simp only[if_neg e];exact h w hw
theorem X2k {c j:Nat}{f:Nat->A5}{x:A5}(hj:j<2^c)(nx:x≠Zz):V.Nz c (fun i=>if i=j then x else f i):=⟨j,hj,by show (if j=j then x else f j)≠_;rw[if_pos rfl];exact nx⟩
theorem X5g {n:Nat}{z:Int}(h:0<n):ixN n (z%((n:Nat):Int))=some (z%((n:Nat):Int)).toNat/\(z%((n:Nat):Int)).toNat<n:=by
 have e0:=Int.emod_nonneg z (by omega:((n:Nat):Int)≠0)
 have e1:=Int.emod_lt_of_pos z (by omega:(0:Int)<((n:Nat):Int))
 unfold ixN
 rw[if_pos e0,if_pos e1]
 exact⟨rfl,by omega⟩
def spHeld (K:PySem.W.Frag):Sp:=fun vs H Q _=>∃ (a:Addr) (ns:List Int) (c:Nat) (way:Int),vs=[.ref a,.int 1,.int c,.int way]/\SqL K H a (ns.map V.int)/\Light ns/\ns.length<=63/\1<=c/\c<=6/\0<=way/\way<=5 ∧
 ∀ (l:Addr) (H':Hp) (ps:List Addr) (f:Nat->A5),H l=none->Same H H'->Bv H' l ps f c->Ams c f->V.Nz c f->Q (.ref l) H'
theorem ok_one:Ok5 100 40 ((1,0,0,0),0):=⟨⟨V.s_1,V.s_0,V.s_0,V.s_0⟩,⟨Int.le_refl 0,.inl rfl⟩,by decide⟩
theorem X0d:Ok5 100 40 ((3,0,0,0),0):=⟨⟨V.Z2d (by decide) (by decide),V.s_0,V.s_0,V.s_0⟩,⟨Int.le_refl 0,.inl rfl⟩,by decide⟩
theorem sc_held:FnScope ["_law_script","_law_at","_law_cells","_law_way","_law_size","_law_board","_law_k","_law_one","_law_word","_law_cell","_law_row"] ["_law_script","_law_at","_law_cells","_law_way"] (Z0i (top 81)):=fS
theorem X4i (F:FunAt K "_law_held_board" (top 81) .none)(X:K.In h)(G:h.Ns mainGlobals mg)(B:Bs mg)(c__law_cell_at:Cal P w K mg base k "_law_cell_at" ["_law_script","_law_k"] (spCell K))(c__law_amount_by:Cal P w K mg base k "_law_amount_by" ["_law_cell"] Y0z)(c__law_board_by:Cal P w K mg base k "_law_board_by" ["_law_script","_law_at","_law_cells"] (V.Y2x K))
  (c__law_spin:Cal P w K mg base k "_law_spin" ["_law_one","_law_k"] spSpin) (c__law_move_by:Cal P w K mg base k "_law_move_by" ["_law_cell","_law_cells"] Z8e) (c__law_plain_row:Cal P w K mg base k "_law_plain_row" ["_law_numbers","_law_cells"] (Y5r K)) (c__law_times:Cal P w K mg base k "_law_times" ["_law_one","_law_other"] (Z9i K)) (c_start:Cal P w K mg base k "start" ["cells","word"] (Y5p K)) (c_run:Cal P w K mg base k "run" ["board","row"] (spRunK K)) :
  Cal P w K mg base (k+1) "_law_held_board" ["_law_script","_law_at","_law_cells","_law_way"] (spHeld K):=by
 have nd:=sc_held.nd
 refine F.cal X G sc_held (bnd4 fun _ _ _ _ _ _ _ _ _ _=>rfl) (fun vs H Q E' h=>?_) (fun f cdv A outer s H vs Q E' hr h=>?_)
 ·obtain⟨a,ns,c,way,rfl,_⟩:=h;rfl
 obtain⟨a,ns,c,way,rfl,SA,lt,n63,c1,c6,w0,w5,kq⟩:=h
 have p6:=pow6 c6
 have p0:0<2^c:=Nat.two_pow_pos c
 have pI:(0:Int)<((2^c:Nat):Int):=by omega
 refine⟨_,(@Z1q _ _ _ _ _ (@Z0r _ _ 4 _ _ _ _ nd rfl (Or.inl rfl) (Z0h Z1r Z0b (pv 2)) rfl (.inl rfl))
  (@Z0e _ _ _ _ _ (Z0y (Z0o Z1u (pv 3) Z0b (nomark _))
   (@Z0g _ _ _ (Z0j (Z0k c__law_board_by hr rfl (Z0a (pv 0) (Z0a (pv 1) (Z0a (pv 2) Z0d))))))
   Z0p)
  (@Z0e _ _ _ _ _ (@Z0r _ _ 5 _ _ _ _ nd rfl (Or.inl rfl) (Z0h X6x (@Z3f _ _ _ _ (Z0a (@Z0z _ _ _ _ _ (Z0a Z0b (Z0a Z0b (Z0a Z0b (Z0a Z0b (Z0a Z0b Z0d)))))) Z0d)) (pv 4)) rfl (.inl rfl))
  (@Z0e _ _ _ _ _ (Z0y (Z0o Z6u (pv 3) Z0b (nomark _))
   (@Z0e _ _ _ _ _ (Z1p PassesOwn.never rfl (Z0w rfl B.range (Z0a (pv 3) Z0d)) (Z0m (i:=6) nd rfl (Or.inl rfl))
    (@Z0e _ _ _ _ _ (@Z0r _ _ 7 _ _ _ _ nd rfl (Or.inr rfl) (Z0k c__law_amount_by hr rfl (Z0a (Z0k c__law_cell_at hr rfl (Z0a (pv 0) (Z0a (Z0h Z1c (pv 1) (pv 6)) Z0d))) Z0d)) rfl (.inl rfl))
    (@Z1q _ _ _ _ _ (Z0y (Z0o (Y1g hr.units) (pv 7) (@Z0z _ _ _ _ _ (Z0a Z0b (Z0a Z0b (Z0a Z0b (Z0a Z0b (Z0a Z0b Z0d)))))) (nomark _))
     (@Z0g _ _ _ (@Z0r _ _ 7 _ _ _ _ nd rfl (Or.inr rfl) (@Z0z _ _ _ _ _ (Z0a Z0b (Z0a Z0b (Z0a Z0b (Z0a Z0b (Z0a Z0b Z0d)))))) rfl (.inl rfl)))
     Z0p)
    (@Z0g _ _ _ (Z5t (pv 7) (Z9q (pv 5) (Z0h Z0u (Z0k c__law_cell_at hr rfl (Z0a (pv 0) (Z0a (Z0h Z1c (Z0h Z1c (pv 1) Z0b) (pv 6)) Z0d))) (pv 4)) Z4w))))))
   (@Z0g _ _ _ (Z0j (pv 5))))
   Z0p)
  (@Z0e _ _ _ _ _ (Z0y (Z0o Z1u (pv 3) Z0b (nomark _))
   (@Z0e _ _ _ _ _ (Z1p PassesOwn.never rfl (Z0w rfl B.range (Z0a (pv 4) Z0d)) (Z0m (i:=8) nd rfl (Or.inl rfl))
    (@Z0e _ _ _ _ _ (@Z0r _ _ 9 _ _ _ _ nd rfl (Or.inl rfl) (Z0h Z1c (Z0k c__law_cell_at hr rfl (Z0a (pv 0) (Z0a (Z0h Z1c (pv 1) (Z0h Z0u (pv 8) Z0b)) Z0d))) (Z0h Z2y (Z0h Z1e (pv 8) Z0b) Z0b)) rfl (.inl rfl))
    (@Z0g _ _ _ (Z0y (Z0o Z9w (Z0h Z0u (pv 9) Z0b) Z0b (nomark _))
     (@Z0g _ _ _ (Z5t (Z0k c__law_spin hr rfl (Z0a (@Z0z _ _ _ _ _ (Z0a Z0b (Z0a Z0b (Z0a Z0b (Z0a Z0b (Z0a Z0b Z0d)))))) (Z0a (Z0h Z4r (Z0h Z1e (pv 9) Z0b) (Z0h Z0u (pv 9) Z0b)) Z0d))) (Z9q (pv 5) (pv 8) Z4w)))
     Z0p))))
   (@Z1q _ _ _ _ _ (Z0y (Z1l (Z0q (Z2h rfl) rfl B.all boot_all (Z0a (Z3k rfl (LcOk.of (Nc:=["_law_one"]) (mp:=[none]) (by kernel_rfl)) (Z1d (pv 5)) (fun _ _ _ _=>(Z0m (i:=0) (show (["_law_one"]:List Str).Nodup by decide +kernel) rfl (Or.inl rfl))) (fun _ _ _ _=>(Z1n (Z8l hr.units) (pv 0) (@Z0z _ _ _ _ _ (Z0a Z0b (Z0a Z0b (Z0a Z0b (Z0a Z0b (Z0a Z0b Z0d)))))) (nomark _)))) Z0d)))
    (@Z0g _ _ _ (Z5t (@Z0z _ _ _ _ _ (Z0a Z0b (Z0a Z0b (Z0a Z0b (Z0a Z0b (Z0a Z0b Z0d)))))) (Z9q (pv 5) Z0b Z4w)))
    Z0p)
   (@Z0g _ _ _ (Z0j (pv 5)))))
   Z0p)
  (@Z0e _ _ _ _ _ (Z2z (i:=10) rfl nd rfl rfl (LcOk.of (Nc:=["_law_number","_law_cells"]) (mp:=[none,some 2]) (by kernel_rfl)) (Z1d (Z2k Z8h (pv 0) (Z2j (Z0h Z1c (pv 1) Z0b)) (Z2j (Z0h Z1c (pv 1) Z0b)))) (fun _ _ _ _=>(Z0m (i:=0) (show (["_law_number","_law_cells"]:List Str).Nodup by decide +kernel) rfl (Or.inl rfl))) (fun _ _ _ _=>(Z0k c__law_move_by hr rfl (Z0a (pv 0) (Z0a (pv 1) Z0d)))) rfl)
  (@Z1q _ _ _ _ _ (Z0y (Z0o Z1u (pv 3) Z0b (nomark _))
   (@Z0g _ _ _ (@Z0r _ _ 10 _ _ _ _ nd rfl (Or.inl rfl) (Z0k c__law_plain_row hr rfl (Z0a (Z2k Z8h (pv 0) (Z2j (Z0h Z1c (pv 1) Z0b)) (Z2j (Z0h Z1c (pv 1) Z0b))) (Z0a (pv 2) Z0d))) rfl (.inl rfl)))
   Z0p)
  (@Z0e _ _ _ _ _ (@Z0r _ _ 7 _ _ _ _ nd rfl (Or.inr rfl) (Z0k c__law_amount_by hr rfl (Z0a (Z0k c__law_cell_at hr rfl (Z0a (pv 0) (Z0a (pv 1) Z0d))) Z0d)) rfl (.inl rfl))
  (@Z1q _ _ _ _ _ (Z0y (Z0o (Y1g hr.units) (pv 7) (@Z0z _ _ _ _ _ (Z0a Z0b (Z0a Z0b (Z0a Z0b (Z0a Z0b (Z0a Z0b Z0d)))))) (nomark _))
   (@Z0g _ _ _ (@Z0r _ _ 7 _ _ _ _ nd rfl (Or.inr rfl) (@Z0z _ _ _ _ _ (Z0a Z0b (Z0a Z0b (Z0a Z0b (Z0a Z0b (Z0a Z0b Z0d)))))) rfl (.inl rfl)))
   Z0p)
  (@Z0e _ _ _ _ _ (@Z0r _ _ 5 _ _ _ _ nd rfl (Or.inl rfl) (Z0k c_run hr rfl (Z0a (Z0k c_start hr rfl (Z0a (pv 2) (Z0a (Z0h Z0u (Z0k c__law_cell_at hr rfl (Z0a (pv 0) (Z0a (Z0h Z1c (pv 1) Z0b) Z0d))) (pv 4)) Z0d))) (Z0a (pv 10) Z0d))) rfl (.inl rfl))
  (@Z0g _ _ _ (Z0j (Z3k rfl (LcOk.of (Nc:=["_law_part","_law_one"]) (mp:=[none,some 7]) (by kernel_rfl)) (Z1d (pv 5)) (fun _ _ _ _=>(Z0m (i:=0) (show (["_law_part","_law_one"]:List Str).Nodup by decide +kernel) rfl (Or.inl rfl))) (fun _ _ _ _=>(Z0k c__law_times hr rfl (Z0a (pv 0) (Z0a (pv 1) Z0d))))))))))))))))),?_⟩
 try dsimp only[cxK]
 refine⟨fun σ' H'=>H'=H/\σ'=[some (.ref a),some (.int 1),some (.int c),some (.int way),some (.int ((2^c:Nat):Int)),none,none,none,none,none,none],⟨_,rfl,_,_,rfl,rfl,⟨1,sz1,by omega,by omega⟩,rfl,by rw[<-ipow c];rfl⟩,?_⟩
 rintro σ0 H0 ⟨rfl,rfl⟩
 refine⟨_,rfl,rfl,_,rfl,eqI (fun e=>?_) (fun ne0=>?_)⟩
 ·exact⟨_,rfl,_,rfl,_,rfl,a,ns,1,c,rfl,SA,lt,by decide,c1,c6,fun l H1 ps f fr S1 h1 l1 v1 o1 nz=>kq l H1 ps f fr S1 ⟨h1,l1,v1⟩ (fun w _=>(o1 w).amt) nz⟩
 refine⟨t5,fun t ht=>⟨(show (1:Nat)<=sizeLine by decide),fun lo hlo=>⟨_,rfl,lo,_,_,rfl,rfl,Z0c,by omega,by omega,by rw[Int.toNat_natCast];exact Nat.le_trans (by simp;exact p6) (by decide),fun l2 hl2=>?_⟩⟩⟩
 have s1:=Z0f ht (tA Zz)
 have s2:=s1.trans (Z0f hlo (.lst [V.ref t]))
 have s3:=s2.trans (Z0f hl2 (.lst (List.replicate (((2^c:Nat):Nat):Int).toNat [V.ref t]).flatten))
 have n2:H0 l2=none:=s2.free hl2
 have B3:Bv (upd (upd (upd H0 t (tA Zz)) lo (.lst [V.ref t])) l2 (.lst (List.replicate (((2^c:Nat):Nat):Int).toNat [V.ref t]).flatten)) l2 (List.replicate (2^c) t) (fun _=>Zz) c:=by
  refine⟨by rw[Z0c,Int.toNat_natCast,X3l],List.length_replicate,fun i q hq=>?_⟩
  rw[List.getElem?_replicate] at hq
  split at hq
  ·cases hq
   exact Z0f hl2 _ _ _ (Z0f hlo _ _ _ Z0c)
  ·cases hq
 generalize upd (upd (upd H0 t (tA Zz)) lo (.lst [V.ref t])) l2 (.lst (List.replicate (((2^c:Nat):Nat):Int).toNat [V.ref t]).flatten)=H3 at *
 have A3:Ams c (fun _=>Zz):=fun _ _=>Y1z
 refine⟨_,rfl,_,_,rfl,rfl,_,rfl,decI (fun wl=>?_) (fun wl=>?_)⟩
 ·
  refine⟨_,rfl,_,rfl,by omega,by omega,?_⟩
  refine Z1i (n:=way.toNat) (fun j σ H'=>Same H0 H'/\∃ (ps:List Addr) (f:Nat->A5) (v6 v7:Option V),Bv H' l2 ps f c/\Ams c f/\(0<j->V.Nz c f)/\σ=[some (.ref a),some (.int 1),some (.int c),some (.int way),some (.int ((2^c:Nat):Int)),some (.ref l2),v6,v7,none,none,none])
   ⟨s3,_,_,_,_,B3,A3,fun z=>absurd z (Nat.lt_irrefl _),rfl⟩ ?_ ?_
  ·rintro j σ H4 hj ⟨S4,ps,f,v6,v7,B4,A4,N4,rfl⟩
   have SA4:=S4.seq SA
   refine⟨_,rfl,_,rfl,_,rfl,_,_,rfl,rfl,a,ns,_,rfl,SA4,by omega,_,rfl,(Z8x lt _).mono (by decide),fun p H5 x S5 hp ox=>?_⟩
   have B5:=B4.same S5
   refine⟨fun σ H'=>Same H5 H'/\∃ (p:Addr) (x:A5),H' p=some (tA x)/\Ok5 100 40 x/\x≠Zz/\σ=[some (.ref a),some (.int 1),some (.int c),some (.int way),some (.int ((2^c:Nat):Int)),some (.ref l2),some (.int (0+(j:Int))),some (.ref p),none,none,none],?_,?_⟩
   ·refine⟨_,rfl,t5,fun t' ht'=>?_⟩
    have s6:=Z0f ht' (.tup [.int 0,.int 0,.int 0,.int 0,.int 0])
    refine⟨p,t',l5 x,[0,0,0,0,0],rfl,rfl,SqT.of (s6 _ _ hp),SqT.of Z0c,_,rfl,blI (fun e=>?_) (fun e=>?_)⟩
    ·refine⟨t5,fun t7 ht7=>⟨s6.trans (Z0f ht7 _),t7,((3,0,0,0),0),Z0c,X0d,fun z=>?_,rfl⟩⟩
     exact absurd (congrArg (fun y:A5=>y.1.1) z) (by decide)
    ·refine⟨s6,p,x,s6 _ _ hp,ox,fun z=>?_,rfl⟩
     rw[z] at e
     exact absurd e (by decide)
   rintro σ H6 ⟨S6,p,x,hp,ox,nx,rfl⟩
   have S46:=(S4.trans S5).trans S6
   have B6:=B5.same S6
   obtain⟨ix,il⟩:=X5g (z:=cell ns (1+2+(0+(j:Int)))) p0
   refine⟨_,rfl,_,rfl,_,rfl,_,rfl,_,_,rfl,rfl,_,rfl,_,_,rfl,rfl,a,ns,_,rfl,S46.seq SA,by omega,_,rfl,_,_,rfl,rfl,pI,l2,_,_,_,rfl,rfl,B6.lst,(by rw[List.length_map,B6.len];exact ix),?_⟩
   exact⟨Z0s S46 n2,_,_,_,_,B6.put hp,Y1y A4 ox.amt,fun _=>X2k il nx,rfl⟩
  ·rintro σ H4 ⟨S4,ps,f,v6,v7,B4,A4,N4,rfl⟩
   exact⟨_,rfl,kq l2 H4 ps f n2 S4 B4 A4 (N4 (by omega))⟩
 refine⟨_,rfl,rfl,_,rfl,eqI (fun e3=>?_) (fun ne3=>?_)⟩
 ·
  refine⟨_,rfl,_,rfl,by omega,by omega,?_⟩
  rw[Int.toNat_natCast]
  refine Z1i (n:=2^c) (fun j σ H'=>Same H0 H'/\∃ (ps:List Addr) (f:Nat->A5) (v8 v9:Option V),Bv H' l2 ps f c/\Ams c f/\σ=[some (.ref a),some (.int 1),some (.int c),some (.int way),some (.int ((2^c:Nat):Int)),some (.ref l2),none,none,v8,v9,none])
   ⟨s3,_,_,_,_,B3,A3,rfl⟩ ?_ ?_
  ·rintro j σ H4 hj ⟨S4,ps,f,v8,v9,B4,A4,rfl⟩
   have SA4:=S4.seq SA
   have e0:(0:Int)+(j:Int)=(j:Int):=Int.zero_add _
   have sz8:Sz 1048600 (cell ns (1+(0+(j:Int))%8)+(0+(j:Int)) / 8*7919):=((Z8x lt _).add (show Sz 20 ((0+(j:Int)) / 8*7919) by unfold Sz;omega)).mono (by decide)
   refine⟨_,rfl,_,rfl,_,rfl,_,_,rfl,rfl,p_8,_,_,rfl,rfl,a,ns,_,rfl,SA4,by omega,_,rfl,_,_,rfl,rfl,⟨by decide,by decide⟩,_,_,rfl,rfl,.inr ⟨by decide,by decide⟩,_,_,rfl,rfl,?_⟩
   refine⟨_,rfl,_,_,rfl,rfl,p_3,_,_,rfl,rfl,_,rfl,decI (fun _=>?_) (fun _=>⟨S4,ps,f,_,_,B4,A4,rfl⟩)⟩
   refine⟨t5,fun t' ht'=>?_⟩
   have s5:=Z0f ht' (tA ((1,0,0,0),0))
   have z3:Sz 1048600 ((cell ns (1+(0+(j:Int))%8)+(0+(j:Int)) / 8*7919) / 3):=sz8.le (by omega)
   have z2:Sz 2 ((cell ns (1+(0+(j:Int))%8)+(0+(j:Int)) / 8*7919)%3):=by unfold Sz;omega
   refine⟨_,rfl,_,_,rfl,rfl,⟨by decide,by decide⟩,_,rfl,_,_,rfl,rfl,p_3,_,_,rfl,rfl,⟨1048600,2,z3,z2,by decide⟩,t',((1,0,0,0),0),_,rfl,Z0c,fun r H6 S6 hr6=>?_⟩
   have S46:=(S4.trans s5).trans S6
   have B6:=B4.same (s5.trans S6)
   refine⟨_,rfl,_,rfl,l2,_,_,j,rfl,rfl,B6.lst,(by rw[List.length_map,B6.len,e0];exact Z8q hj),?_⟩
   exact⟨Z0s S46 n2,_,_,_,_,B6.put hr6,Y1y A4 (Y3i ok_one).amt,rfl⟩
  ·rintro σ H4 ⟨S4,ps,f,v8,v9,B4,A4,rfl⟩
   refine⟨fun σ' H'=>∃ (ps:List Addr) (f:Nat->A5),Same H0 H'/\Bv H' l2 ps f c/\Ams c f/\V.Nz c f/\σ'=[some (.ref a),some (.int 1),some (.int c),some (.int way),some (.int ((2^c:Nat):Int)),some (.ref l2),none,none,v8,v9,none],?_,?_⟩
   ·refine⟨_,rfl,l2,rfl,⟨_,SqL.of B4.lst⟩,fun acc hacc=>?_⟩
    refine Z3h (K:=K) (a:=l2) (xs:=ps.map V.ref) (fr:=[]) (fun i ys H'=>Same H4 H'/\H' acc=some (.lst ys)/\ys=((List.range i).map fun j=>decide (l5 (f j)=[0,0,0,0,0])).map V.bl) (by rw[List.length_map,B4.len];exact t64 p6) ⟨Z0f hacc _,Z0c,rfl⟩ (fun i ys H' p=>SqL.of (p.1 _ _ B4.lst)) ?_ ?_
    ·rintro i x ys H5 N hx hy ⟨S5,a5,rfl⟩ kN
     rw[List.getElem?_map] at hx
     obtain⟨p,hp,rfl⟩:=Option.map_eq_some_iff.mp hx
     have ep:=S5 _ _ (B4.vals i p hp)
     refine⟨_,rfl,t5,fun t' ht'=>⟨p,t',l5 (f i),[0,0,0,0,0],rfl,rfl,SqT.of (Z0f ht' _ _ _ ep),SqT.of Z0c,kN _ _ (Z0f ht' _ _ _ a5) ⟨Z0s (S5.trans (Z0f ht' _)) hacc,Z0c,?_⟩⟩⟩
     rw[List.range_succ,List.map_append,List.map_append];rfl
    ·rintro ys H5 hy ⟨S5,a5,rfl⟩
     have B5:=B4.same S5
     refine⟨acc,_,rfl,SqL.of a5,_,rfl,blI (fun _=>?_) (fun eb=>?_)⟩
     ·refine⟨t5,fun t' ht'=>?_⟩
      have s6:=Z0f ht' (tA ((1,0,0,0),0))
      have B6:=B5.same s6
      refine⟨_,rfl,l2,_,_,0,rfl,rfl,B6.lst,(by rw[List.length_map,B6.len];exact Z8q p0),?_⟩
      refine⟨_,_,Z0s ((S4.trans S5).trans s6) n2,B6.put Z0c,Y1y A4 ok_one.amt,X2k p0 (fun z=>?_),rfl⟩
      exact absurd (congrArg (fun y:A5=>y.1.1) z) (by decide)
     ·rw[List.length_map,B4.len] at eb
      exact⟨ps,f,S4.trans S5,B5,A4,V.X7c (by rw[eb];exact Bool.false_ne_true),rfl⟩
   rintro σ' H5 ⟨ps,f,S5,B5,A5',N5,rfl⟩
   exact⟨_,rfl,kq l2 H5 ps f n2 S5 B5 A5' N5⟩
 obtain⟨dr,edr,ldr⟩:=Y4a ns (some (1+2)) (some (1+8))
 refine⟨_,rfl,_,rfl,_,_,rfl,rfl,_,rfl,_,rfl,_,_,rfl,rfl,_,rfl,a,_,rfl,s3.seq SA,fun cp hcp=>?_⟩
 rw[edr]
 have s4:=s3.trans (Z0f hcp (.lst (dr.map V.int)))
 have SD:SqL K (upd H3 cp (.lst (dr.map V.int))) cp (dr.map V.int):=SqL.of Z0c
 generalize upd H3 cp (.lst (dr.map V.int))=H4 at *
 refine⟨cp,rfl,⟨_,SD⟩,fun acc hacc=>?_⟩
 refine Z3h (K:=K) (a:=cp) (xs:=dr.map V.int) (fr:=[some (.int c)]) (fun i ys H'=>Same H4 H'/\H' acc=some (.lst ys)/\∃ (rp:List Addr) (ms:List Gm),ys=rp.map V.ref/\Mvs H' rp ms/\(∀ m∈ms,m.Ok c)/\ms.length=i) (by rw[List.length_map];exact t64 (by omega))
  ⟨Z0f hacc _,Z0c,[],[],rfl,.nil,(by simp),rfl⟩ (fun i ys H' e=>e.1.seq SD) ?_ ?_
 ·rintro i x ys H5 N hx hy ⟨S5,a5,rp,ms,rfl,M5,O5,l5'⟩ kN
  rw[List.getElem?_map] at hx
  obtain⟨cl,hcl,rfl⟩:=Option.map_eq_some_iff.mp hx
  refine⟨_,rfl,_,rfl,cl,c,rfl,c1,c6,fun r H6 nm ns2 S6 hr kinds=>?_⟩
  obtain⟨m,okm,e1,e2⟩:∃ m:Gm,m.Ok c/\nm=m.nm/\ns2=m.ns:=by
   rcases kinds with ⟨rfl,a,ac,rfl⟩ | ⟨v,ok,rfl,rfl⟩
   ·exact⟨.mix a,ac,rfl,rfl⟩
   ·exact⟨.mv v,ok,rfl,rfl⟩
  subst e1 e2
  have a6:=S6 _ _ a5
  refine kN _ _ a6 ⟨Z0s (S5.trans S6) hacc,Z0c,rp++[r],ms++[m],by rw[List.map_append];rfl,Mvs.upd (Mvs.snoc (M5.same S6) hr) a6,fun y hy=>?_,by simp[l5']⟩
  rcases List.mem_append.mp hy with q | q
  ·exact O5 y q
  ·rw[List.mem_singleton.mp q];exact okm
 rintro ys H5 hy ⟨S5,a5,rp,ms,rfl,M5,O5,l5'⟩
 have S05:=s4.trans S5
 refine⟨fun σ' H'=>Same H0 H'/\∃ (lr:Addr) (rp:List Addr) (ms:List Gm),Rw H' lr rp ms c/\ms.length<=63/\σ'=[some (.ref a),some (.int 1),some (.int c),some (.int way),some (.int ((2^c:Nat):Int)),some (.ref l2),none,none,none,none,some (.ref lr)],?_,?_⟩
 ·rw[List.length_map] at l5'
  refine⟨_,rfl,rfl,_,rfl,eqI (fun e5=>?_) (fun _=>⟨S05,acc,rp,ms,⟨a5,M5,O5,by omega⟩,by omega,rfl⟩)⟩
  obtain⟨dr',edr',ldr'⟩:=Y4a ns (some (1+2)) (some (1+14))
  refine⟨_,rfl,_,rfl,_,_,rfl,rfl,_,rfl,_,rfl,_,_,rfl,rfl,_,rfl,a,_,rfl,S05.seq SA,fun cp' hcp'=>?_⟩
  rw[edr']
  have s6:=Z0f hcp' (.lst (dr'.map V.int))
  refine⟨_,rfl,cp',dr',c,rfl,SqL.of Z0c,by omega,c1,c6,fun lr H7 rp ms S7 RW ml=>?_⟩
  exact⟨(S05.trans s6).trans S7,lr,rp,ms,RW,by omega,rfl⟩
 rintro σ6 H6 ⟨S6,lr,rp,ms,RW,m63,rfl⟩
 refine⟨_,rfl,_,rfl,a,ns,_,rfl,S6.seq SA,by omega,_,rfl,(Z8x lt _).mono (by decide),fun p H7 x S7 hp ox=>?_⟩
 have RW7:=RW.same S7
 refine⟨fun σ H'=>Same H7 H'/\∃ (p:Addr) (x:A5),H' p=some (tA x)/\Ok5 100 40 x/\x≠Zz/\σ=[some (.ref a),some (.int 1),some (.int c),some (.int way),some (.int ((2^c:Nat):Int)),some (.ref l2),none,some (.ref p),none,none,some (.ref lr)],?_,?_⟩
 ·refine⟨_,rfl,t5,fun t' ht'=>?_⟩
  have s8:=Z0f ht' (.tup [.int 0,.int 0,.int 0,.int 0,.int 0])
  refine⟨p,t',l5 x,[0,0,0,0,0],rfl,rfl,SqT.of (s8 _ _ hp),SqT.of Z0c,_,rfl,blI (fun e=>?_) (fun e=>?_)⟩
  ·refine⟨t5,fun t7 ht7=>⟨s8.trans (Z0f ht7 _),t7,((1,0,0,0),0),Z0c,ok_one,fun z=>?_,rfl⟩⟩
   exact absurd (congrArg (fun y:A5=>y.1.1) z) (by decide)
  ·refine⟨s8,p,x,s8 _ _ hp,ox,fun z=>?_,rfl⟩
   rw[z] at e
   exact absurd e (by decide)
 rintro σ8 H8 ⟨S8,p,x,hp,ox,nx,rfl⟩
 have S08:=(S6.trans S7).trans S8
 have RW8:=RW7.same S8
 have e0:=Int.emod_nonneg (cell ns (1+1)) (show ((2^c:Nat):Int)≠0 by omega)
 have e1:=Int.emod_lt_of_pos (cell ns (1+1)) pI
 have ex:cell ns (1+1)%((2^c:Nat):Int)=(((cell ns (1+1)%((2^c:Nat):Int)).toNat:Nat):Int):=by omega
 have xl:(cell ns (1+1)%((2^c:Nat):Int)).toNat<2^c:=by omega
 refine⟨_,rfl,_,rfl,_,rfl,_,_,rfl,rfl,a,ns,_,rfl,S08.seq SA,by omega,_,rfl,_,_,rfl,rfl,pI,c,(cell ns (1+1)%((2^c:Nat):Int)).toNat,(by rw[<-ex];rfl),c1,c6,xl,fun lb H9 bs fr9 S9 BD9=>?_⟩
 generalize (cell ns (1+1)%((2^c:Nat):Int)).toNat=x0 at *
 refine⟨_,rfl,lb,lr,bs,rp,st x0,c,100,40,ms,rfl,RW8.same S9,BD9,c6,by decide,by decide,fun rb H10 qs g fr10 S10 BD10 ST=>?_⟩
 have hp10:=S10 _ _ (S9 _ _ hp)
 have gnz:V.Nz c g:=by
  apply Classical.byContradiction
  intro no
  have gz:∀ w,w<2^c->g w=Zz:=fun w hw=>Classical.byContradiction fun z=>no ⟨w,hw,z⟩
  have:=Y2k c6 RW.ok (fun w _=>(X6n x0 w).amt) ST gz x0 xl
  unfold st at this
  rw[if_pos rfl] at this
  exact absurd (congrArg (fun y:A5=>y.1.1) this) (by decide)
 have S010:=(S08.trans S9).trans S10
 have SB':SqL K H10 rb (qs.map V.ref):=SqL.of BD10.lst
 refine⟨_,rfl,rb,rfl,⟨_,SB'⟩,fun acc2 hacc2=>?_⟩
 refine Z3h (K:=K) (a:=rb) (xs:=qs.map V.ref) (fr:=[some (.ref p)]) (fun i ys H'=>Same H10 H'/\H' acc2=some (.lst ys)/\∃ (us:List Addr) (z:Nat->A5),ys=us.map V.ref/\us.length=i/\Vals5 H' us z/\∀ j,j<i->Prd (g j) x (z j)) (by rw[List.length_map,BD10.len];exact t64 p6)
  ⟨Z0f hacc2 _,Z0c,[],fun _=>Zz,rfl,rfl,(fun _ _ z=>by cases z),fun _ z=>absurd z (Nat.not_lt_zero _)⟩ (fun i ys H' e=>e.1.seq SB') ?_ ?_
 ·rintro i v ys H11 N hx hy ⟨S11,a11,us,z,rfl,ul,v11,pr⟩ kN
  rw[List.getElem?_map] at hx
  obtain⟨q,hq,rfl⟩:=Option.map_eq_some_iff.mp hx
  have il:i<2^c:=by rw[<-BD10.len];exact(List.getElem?_eq_some_iff.mp hq).1
  have gq:=(BD10.vals i q hq).same S11
  refine⟨_,rfl,_,rfl,q,p,g i,x,100+1010*ms.length,40+ms.length,rfl,gq,S11 _ _ hp10,BD10.ok i il,ox.mono (by omega) (by omega),by omega,fun r H12 y S12 hr12 P12 O12=>?_⟩
  have a12:=S12 _ _ a11
  refine kN _ _ a12 ⟨Z0s (S11.trans S12) hacc2,Z0c,us++[r],fun j=>if j=us.length then y else z j,by rw[List.map_append];rfl,by simp[ul],V.Z2t (V.Z3c v11 S12 hr12) a12,fun j hj=>?_⟩
  show Prd (g j) x (if j=us.length then y else z j)
  by_cases e:j=us.length
  ·rw[if_pos e,e,ul];exact P12
  ·rw[if_neg e];exact pr j (by omega)
 rintro ys H11 hy ⟨S11,a11,us,z,rfl,ul,v11,pr⟩
 rw[List.length_map,BD10.len] at ul pr
 obtain⟨w1,hw1,gw1⟩:=gnz
 exact kq acc2 H11 us z (S010.free hacc2) (S010.trans S11) ⟨a11,ul,v11⟩ (fun w hw=>(pr w hw).amt) ⟨w1,hw1,(pr w1 hw1).nz (BD10.ok w1 hw1).amt ox.amt gw1 nx⟩
end
end K62
namespace K62
open PySem PySem.Spec PyProof.Rows L2 Am Pc Ba
open M54 (Mk mul)
open M57 (E In)
open M53 (vec V6 IsLd ldm ev Z2a)
open K62T (T3 L3 Mks Z3z Z2p Z2e)
open M82 (Kp Nv)
theorem kept5 {K:PySem.W.Frag}{a:Addr}{od:Option Addr}{sl:Array (Option Value)}{n:Nat}{v1 v2 v3 v4 v5:Int}{t1 t2 t3 t4 t5:Tok}(h:K.lookup a=some ⟨.type "tuple",od,.seq #[.int v1 t1,.int v2 t2,.int v3 t3,.int v4 t4,.int v5 t5] n,sl⟩)(H:Hp):At5 K H a ((v1,v2,v3,v4),v5) :=
 .inr ⟨_,_,_,h,rfl,rfl,(show 5<=sizeLine by decide),.cons ⟨_,rfl⟩ (.cons ⟨_,rfl⟩ (.cons ⟨_,rfl⟩ (.cons ⟨_,rfl⟩ (.cons ⟨_,rfl⟩ .nil))))⟩
theorem Y3g (ps:List Addr):∀ v∈ps.map V.ref,ownV v:=fun v hv=>by
 obtain⟨p,_,rfl⟩:=List.mem_map.mp hv
 exact .inr ⟨p,rfl⟩
theorem X2i {c:Nat}{f:Nat->A5}(h:Ams c f):Okz c f:=fun i hi z=>by
 have o:=(h i hi).odd
 rw[z] at o
 simp only at o
 omega
theorem X8r {c:Nat}{f:Nat->A5}(h:Ams c f)(n:V.Nz c f):Nv c f:=by
 obtain⟨w,hw,nz⟩:=n
 exact⟨w,hw,fun z=>nz (Prod.ext z (X2i h w hw z))⟩
theorem Kep.red {c:Nat}{f:Nat->A5}{S:List Mk}(h:Kep c f S):M53.Red (S.map vec) (S.map ldm):=by
 obtain⟨R,_,D,_⟩:=h.ex
 exact D.red h.rise
theorem Kep.kr {c:Nat}{f:Nat->A5}{S:List Mk}(hc:c<=6)(nz:Nv c f)(h:Kep c f S):M82.Kr c f S:=by
 obtain⟨R,k,D,l⟩:=h.ex
 exact k.red hc nz D h.rise l
theorem Kep.uniq {c:Nat}{f:Nat->A5}{S S':List Mk}(hc:c<=6)(nz:Nv c f)(h:Kep c f S)(h':Kep c f S'):S=S':=by
 obtain⟨R,k,D,l⟩:=h.ex
 obtain⟨R',k',D',l'⟩:=h'.ex
 exact M82.Kc.uniq hc nz k k' D D' h.rise h'.rise
theorem X1m (ys:List V)(y:V):cutV (ys++[y]) none (some (-1))=ys:=by
 have h:=HT.Y1u (-1) (ys++[y]).length (ys++[y]).length
 rw[if_pos (by decide)] at h
 have l:(ys++[y]).length=ys.length+1:=by rw[List.length_append];rfl
 have e:HT.sIx (ys++[y]).length (ys++[y]).length (some (-1))=ys.length:=by omega
 unfold cutV
 rw[e,HT.Y9l,List.drop_zero,Nat.sub_zero,List.take_left']
 rfl
theorem Bv.upd {H:Hp}{l r:Addr}{ps:List Addr}{f:Nat->A5}{c:Nat}{xs ys:List V}(b:Bv H l ps f c)(hr:H r=some (.lst xs))(ne:l≠r):Bv (upd H r (.lst ys)) l ps f c:=⟨by rw[Z0x ne];exact b.lst,b.len,V.Z2t b.vals hr⟩
section
variable {P:Program}{w:World}{K:PySem.W.Frag}{mg:Str->Option Value}{base:Heap}{k:Nat}{h:Heap}
theorem sc_law:FnScope ["_law_script","_law_head","_law_cells","_law_board","_law_kept","_law_rows","_law_made_here","_law_f","_law_s","_law_about","_law_mark"] ["_law_script"] (Z0i (top 89)):=fS
theorem X7a {n:Nat}(hn:n<=63){f:Addr}{fd:FuncData}(F:Fun K "law" "law" (top 89) f fd)(B:Bs mg)(c__law_cell_at:Cal P w K mg base k "_law_cell_at" ["_law_script","_law_k"] (spCell K))(c__law_cells_by:Cal P w K mg base k "_law_cells_by" ["_law_cell"] Y5x)(c__law_held_board:Cal P w K mg base k "_law_held_board" ["_law_script","_law_at","_law_cells","_law_way"] (spHeld K))
  (c_keepers:Cal P w K mg base k "keepers" ["board"] (spKeep K)) (c__law_is_reduced:Cal P w K mg base k "_law_is_reduced" ["_law_rows","_law_cells"] Y5v) (c__law_keeps:Cal P w K mg base k "_law_keeps" ["_law_board","_law_mark"] (Y5u K)) (c__law_made:Cal P w K mg base k "_law_made" ["_law_rows"] (spMade K)) (c__law_tried:Cal P w K mg base k "_law_tried" ["_law_script","_law_cells"] (Y5o K)) (c__law_bits:Cal P w K mg base k "_law_bits" ["_law_number"] spOnes) :
  FnOk P w K mg base CX0 (k+1) f fd ["_law_script"] (spLaw K n):=by
 have nd:=sc_law.nd
 refine F.ok sc_law (fun vs H Q E' h=>?_) (fun cdv A outer s H vs Q E' hr h=>?_)
 ·obtain⟨a,ns,rfl,_⟩:=h;rfl
 obtain⟨sa,ns,rfl,hS,h63,lt,fin⟩:=h
 refine⟨_,(@Z1q _ _ _ _ _ (@Z0r _ _ 1 _ _ _ _ nd rfl (Or.inl rfl) (Z0k c__law_cell_at hr rfl (Z0a (pv 0) (Z0a Z0b Z0d))) rfl (.inl rfl))
  (@Z1q _ _ _ _ _ (@Z0r _ _ 2 _ _ _ _ nd rfl (Or.inl rfl) (Z0k c__law_cells_by hr rfl (Z0a (pv 1) Z0d)) rfl (.inl rfl))
  (@Z1q _ _ _ _ _ (@Z0r _ _ 3 _ _ _ _ nd rfl (Or.inl rfl) (Z0k c__law_held_board hr rfl (Z0a (pv 0) (Z0a Z0b (Z0a (pv 2) (Z0a (Z0h Z0u (Z0h Z1e (pv 1) Z0b) Z0b) Z0d))))) rfl (.inl rfl))
  (@Z0e _ _ _ _ _ (@Z0r _ _ 4 _ _ _ _ nd rfl (Or.inr rfl) (Z4f Z5y rfl B.list boot_list (Z0a (pv 3) Z0d)) rfl (.inl rfl))
  (@Z0e _ _ _ _ _ (@Z0r _ _ 5 _ _ _ _ nd rfl (Or.inl rfl) (Z0k c_keepers hr rfl (Z0a (pv 3) Z0d)) rfl (.inl rfl))
  (@Z0e _ _ _ _ _ (Z0y (PW.pt (Z3y (Z0o (Y9y hr.units) (pv 3) (pv 4) (nomark _)) (Z3w (Z2f (Z1l (Z0k c__law_is_reduced hr rfl (Z0a (pv 5) (Z0a (pv 2) Z0d))))))))
   (@Z0g _ _ _ (Z0j Z2w))
   Z0p)
  (@Z0e _ _ _ _ _ (Z0y (Z2f (Z1l (Z0q (Z2h rfl) rfl B.all boot_all (Z0a (Z3k rfl (LcOk.of (Nc:=["_law_mark","_law_kept"]) (mp:=[none,some 4]) (by kernel_rfl)) (Z1d (pv 5)) (fun _ _ _ _=>(Z0m (i:=0) (show (["_law_mark","_law_kept"]:List Str).Nodup by decide +kernel) rfl (Or.inl rfl))) (fun _ _ _ _=>(Z0k c__law_keeps hr rfl (Z0a (pv 1) (Z0a (pv 0) Z0d))))) Z0d))))
   (@Z0g _ _ _ (Z0j Z2w))
   Z0p)
  (@Z0e _ _ _ _ _ (@Z0r _ _ 6 _ _ _ _ nd rfl (Or.inl rfl) (Z0k c__law_made hr rfl (Z0a (pv 5) Z0d)) rfl (.inl rfl))
  (@Z0e _ _ _ _ _ (Z1p PassesOwn.never rfl (Z1d (Z0k c__law_tried hr rfl (Z0a (pv 0) (Z0a (pv 2) Z0d)))) (@Z4n _ _ _ _ _ _ rfl (@Z1b _ _ _ _ _ (@Z0m _ _ 7 _ nd rfl (Or.inl rfl) (by first | exact .inl rfl | exact .inr rfl)) (@Z1b _ _ _ _ _ (@Z0m _ _ 8 _ nd rfl (Or.inl rfl) (by first | exact .inl rfl | exact .inr rfl)) Z3j rfl) rfl) rfl rfl)
   (@Z0g _ _ _ (Z1p PassesOwn.never rfl (Z0w rfl B.range (Z0a Z0b Z0d)) (Z0m (i:=9) nd rfl (Or.inl rfl))
    (@Z0e _ _ _ _ _ (@Z0r _ _ 10 _ _ _ _ nd rfl (Or.inl rfl) (@Z0z _ _ _ _ _ (Z0a (Z0h Z0u (Z0h Z1c (Z0k c__law_bits hr rfl (Z0a (Z0h Z1t (pv 7) (pv 8)) Z0d)) (Z0h Z2y Z0b (pv 9))) Z0b) (Z0a (pv 7) (Z0a (pv 8) Z0d)))) rfl (.inl rfl))
    (@Z0g _ _ _ (Z0y (PW.pt (Z6q (Z1l (Z0k c__law_keeps hr rfl (Z0a (pv 4) (Z0a (pv 10) Z0d)))) (Z4q (Y6f (Y6n (Y1q hr) (pv 10) (pv 6))))))
     (@Z0g _ _ _ (Z0j Z2w))
     Z0p))))))
  (@Z0e _ _ _ _ _ (Z3i (Y1d PySem.F.plainAttrs_list PySem.F.slot_list_append PySem.F.type_list_append Z2m (pv 5) (Z0a Z0b Z0d)))
  (@Z0g _ _ _ (Z0j (Z5c (Z1n (Y9z hr.units) (pv 3) (pv 4) (nomark _)) (Z3x (X3q (Z1n Z9w (pv 2) Z0b (nomark _)) (Z3x (Z1n (X3y hr.units) (Z2k Z8h (pv 5) Z4d (Z2j (Y4n Z7i Z0b))) (Z0k c_keepers hr rfl (Z0a (pv 3) Z0d)) (nomark _)))))))))))))))))),?_⟩
 try dsimp only[cxK]
 refine⟨fun σ H'=>H'=H/\∃ hd:Int,σ=[some (.ref sa),some (.int hd),none,none,none,none,none,none,none,none,none],⟨_,rfl,sa,ns,_,rfl,hS,by omega,rfl,_,rfl⟩,?_⟩
 rintro σ1 H1 ⟨rfl,hd,rfl⟩
 refine⟨fun σ H'=>H'=H1/\∃ c:Nat,1<=c/\c<=6/\σ=[some (.ref sa),some (.int hd),some (.int c),none,none,none,none,none,none,none,none],⟨_,rfl,hd,rfl,fun c c1 c6=>⟨rfl,c,c1,c6,rfl⟩⟩,?_⟩
 rintro σ2 H2 ⟨rfl,c,c1,c6,rfl⟩
 have p6:=pow6 c6
 refine⟨fun σ H'=>Same H2 H'/\∃ (lb:Addr) (ps:List Addr) (f:Nat->A5),Bv H' lb ps f c/\Ams c f/\V.Nz c f/\σ=[some (.ref sa),some (.int hd),some (.int c),some (.ref lb),none,none,none,none,none,none,none],?_,?_⟩
 ·have e0:=Int.emod_nonneg (hd / 144) (show (6:Int)≠0 by decide)
  have e1:=Int.emod_lt_of_pos (hd / 144) (show (0:Int)<6 by decide)
  exact⟨_,rfl,_,rfl,_,rfl,_,_,rfl,rfl,⟨by decide,by decide⟩,_,_,rfl,rfl,(by decide:(0:Int)<6),sa,ns,c,_,rfl,hS,lt,by omega,c1,c6,by omega,by omega,fun lb H3 ps f _ S3 B3 A3 N3=>⟨S3,lb,ps,f,B3,A3,N3,rfl⟩⟩
 rintro σ3 H3 ⟨S3,lb,ps,f,B3,A3,N3,rfl⟩
 have oz:=X2i A3
 have nv:=X8r A3 N3
 refine⟨_,rfl,lb,_,rfl,.inl (SqL.of B3.lst),fun lk hlk=>?_⟩
 have s4:=Z0f hlk (.lst (ps.map V.ref))
 have BK:Bv (upd H3 lk (.lst (ps.map V.ref))) lk ps f c:=⟨Z0c,B3.len,B3.vals.same s4⟩
 have BB:=B3.same s4
 have S4:=S3.trans s4
 generalize upd H3 lk (.lst (ps.map V.ref))=H4 at *
 refine⟨_,rfl,lb,ps,f,c,rfl,BB.bo,c1,c6,oz,nv,fun lr H5 qs S frr S5 h5 MK KP=>?_⟩
 have KR:=KP.kr c6 nv
 have RD:=KP.red
 have BK5:=BK.same S5
 have BB5:=BB.same S5
 refine⟨_,rfl,_,rfl,lb,lk,ps.map V.ref,rfl,rfl,SqL.of BB5.lst,SqL.of BK5.lst,Y3g ps,_,rfl,iteF ?_⟩
 refine⟨_,rfl,_,rfl,lr,qs,S,c,rfl,h5,MK,fun m hm=>⟨(KR.ok m hm).1,(KR.ok m hm).2.2⟩,RD,KR.len,c6,fun H6 S6=>⟨_,rfl,iteF ?_⟩⟩
 have h6:=S6 _ _ h5
 have MK6:=MK.same S6
 have BK6:=BK5.same S6
 have S46:=S5.trans S6
 have SR:SqL K H6 lr (qs.map V.ref):=SqL.of h6
 have lq:=MK6.length
 refine⟨_,rfl,lr,rfl,⟨_,SR⟩,fun acc hacc=>?_⟩
 refine Z3h (K:=K) (a:=lr) (xs:=qs.map V.ref) (fr:=[some (.ref lk)]) (fun i ys H'=>Same H6 H'/\H' acc=some (.lst ys)/\ys=(List.replicate i true).map V.bl) (by rw[List.length_map,lq];exact Nat.le_trans KR.len (by decide)) ⟨Z0f hacc _,Z0c,rfl⟩ (fun i ys H' e=>e.1.seq SR) ?_ ?_
 ·rintro i x ys H7 N hx hy ⟨S7,a7,rfl⟩ kN
  rw[List.getElem?_map] at hx
  obtain⟨p,hp,rfl⟩:=Option.map_eq_some_iff.mp hx
  obtain⟨m,hmi,pm⟩:=MK6.get hp
  obtain⟨om,km,em⟩:=KR.ok m (List.mem_of_getElem? hmi)
  refine⟨_,rfl,_,rfl,lk,p,ps,f,c,m,rfl,BK6.same S7,c6,SqT.of (S7 _ _ pm),om.f,fun b H8 S8 hb=>?_⟩
  rw[hb.mpr km]
  refine kN _ _ (S8 _ _ a7) ⟨Z0s (S7.trans S8) hacc,Z0c,?_⟩
  rw[List.replicate_succ',List.map_append]
  rfl
 rintro ys H7 hy ⟨S7,a7,rfl⟩
 refine⟨acc,_,rfl,SqL.of a7,_,rfl,blI (fun z=>absurd z (by rw[Z4m];exact Bool.false_ne_true)) (fun _=>?_)⟩
 have h7:=S7 _ _ h6
 have MK7:=MK6.same S7
 refine⟨_,rfl,lr,qs,S,rfl,SqL.of h7,MK7,KR.len,fun d H8 kvs S8 hd8 has=>?_⟩
 have S48:=(S46.trans S7).trans S8
 have S28:=S4.trans S48
 refine⟨_,rfl,_,rfl,sa,ns,c,rfl,S28.seq hS,c1,c6,fun lt' H9 ts W S9 h9 PW LW=>?_⟩
 have BK9:=BK.same (S48.trans S9)
 have d9:=S9 _ _ hd8
 have lw:=PW.length
 refine⟨lt',rfl,⟨_,SqL.of h9⟩,Z2o (K:=K) (a:=lt') (xs:=ts.map V.ref) (fun i σ H'=>Same H9 H'/\∃ v7 v8 v9 v10:Option V,σ=[some (.ref sa),some (.int hd),some (.int c),some (.ref lb),some (.ref lk),some (.ref lr),some (.ref d),v7,v8,v9,v10])
  ⟨Same.refl _,_,_,_,_,rfl⟩ (fun i σ H' _ e=>SqL.of (e.1 _ _ h9)) ?_ ?_⟩
 ·rintro i x σ H10 hx ⟨S10,v7,v8,v9,v10,rfl⟩
  rw[List.getElem?_map] at hx
  obtain⟨q,hq,rfl⟩:=Option.map_eq_some_iff.mp hx
  obtain⟨⟨ff,ss⟩,hW,eq⟩:=PW.get hq
  obtain⟨fl,sl⟩:=LW (ff,ss) (List.mem_of_getElem? hW)
  refine⟨q,_,rfl,SqT.of (S10 _ _ eq),rfl,_,_,rfl,_,_,rfl,rfl,?_⟩
  refine⟨_,rfl,by decide,by decide,Z1i (n:=2) (fun j σ H'=>Same H9 H'/\∃ v9 v10:Option V,σ=[some (.ref sa),some (.int hd),some (.int c),some (.ref lb),some (.ref lk),some (.ref lr),some (.ref d),some (.int (ff:Nat)),some (.int (ss:Nat)),v9,v10]) ⟨S10,_,_,rfl⟩ ?_ ?_⟩
  ·rintro j σ H11 hj ⟨S11,v9,v10,rfl⟩
   refine⟨_,rfl,_,rfl,_,_,rfl,rfl,ff&&&ss,Z3z _ _,_,rfl,_,_,rfl,rfl,.inl ⟨by decide,by decide⟩,_,_,rfl,rfl,_,_,rfl,rfl,Z2e,_,rfl,_,rfl,t3,fun t ht=>?_⟩
   have s12:=Z0f ht (.tup [.int ((((pc (ff&&&ss):Nat):Int)+2*(0+(j:Int)))%4),.int (ff:Nat),.int (ss:Nat)])
   have ht12:upd H11 t (.tup [.int ((((pc (ff&&&ss):Nat):Int)+2*(0+(j:Int)))%4),.int (ff:Nat),.int (ss:Nat)]) t=some (T3 ((pc (ff&&&ss)+2*j)%4,ff,ss)):=by
    rw[Z0c]
    show some (HO.tup [.int ((((pc (ff&&&ss):Nat):Int)+2*(0+(j:Int)))%4),.int (ff:Nat),.int (ss:Nat)])=some (HO.tup [.int (((pc (ff&&&ss)+2*j)%4:Nat):Int),.int (ff:Nat),.int (ss:Nat)])
    rw[show (((pc (ff&&&ss):Nat):Int)+2*(0+(j:Int)))%4=(((pc (ff&&&ss)+2*j)%4:Nat):Int) by omega]
   have S12:=S11.trans s12
   generalize upd H11 t (.tup [.int ((((pc (ff&&&ss):Nat):Int)+2*(0+(j:Int)))%4),.int (ff:Nat),.int (ss:Nat)])=H12 at *
   have om:M82.Ok c ((pc (ff&&&ss)+2*j)%4,ff,ss):=⟨Nat.mod_lt _ (by decide),fl,sl⟩
   refine⟨_,rfl,_,rfl,lk,t,ps,f,c,((pc (ff&&&ss)+2*j)%4,ff,ss),rfl,BK9.same S12,c6,SqT.of ht12,fl,fun b H13 S13 hb=>⟨_,rfl,blI (fun e=>?_) (fun _=>⟨S12.trans S13,_,_,rfl⟩)⟩⟩
   obtain⟨xx,hxx,ex⟩:=KR.all _ om (hb.mp e)
   obtain⟨v,hv⟩:=has xx hxx
   rw[ex] at hv
   refine⟨_,rfl,_,rfl,d,some v,rfl,(by rw[<-hv];exact DGet.t (k:=k3 ((pc (ff&&&ss)+2*j)%4,ff,ss)) (S13 _ _ (S12 _ _ d9)) (S13 _ _ ht12)),_,rfl,iteF ⟨S12.trans S13,_,_,rfl⟩⟩
  ·rintro σ H11 ⟨S11,v9,v10,rfl⟩
   exact⟨S11,_,_,_,_,rfl⟩
 ·rintro σ H10 ⟨S10,v7,v8,v9,v10,rfl⟩
  have h10:=S10 _ _ (S9 _ _ (S8 _ _ h7))
  refine⟨_,rfl,.inl ⟨rfl,_,SqL.of h10⟩,lr,_,_,rfl,rfl,h10,(by rw[List.length_map,lq];exact Nat.lt_of_le_of_lt KR.len (by decide)),?_⟩
  have nb:lb≠lr:=Z1g BB.lst frr
  have nk:lk≠lr:=Z1g BK.lst frr
  have SS:=(S48.trans S9).trans S10
  have B11:=(BB.same SS).upd (ys:=qs.map V.ref++[.int 5]) h10 nb
  have K11:=(BK.same SS).upd (ys:=qs.map V.ref++[.int 5]) h10 nk
  have M11:=K62T.Mks.upd (ys:=qs.map V.ref++[.int 5]) (MK7.same ((S8.trans S9).trans S10)) h10
  have h11:upd H10 lr (.lst (qs.map V.ref++[.int 5])) lr=some (.lst (qs.map V.ref++[.int 5])):=Z0c
  generalize upd H10 lr (.lst (qs.map V.ref++[.int 5]))=H11 at *
  refine⟨_,rfl,_,rfl,lb,lk,ps.map V.ref,rfl,rfl,SqL.of B11.lst,SqL.of K11.lst,Y3g ps,_,rfl,iteT ?_⟩
  refine⟨_,rfl,_,_,rfl,rfl,_,rfl,decI (fun _=>fin _) (fun _=>?_)⟩
  refine⟨_,rfl,_,rfl,_,rfl,lr,_,rfl,SqL.of h11,fun cp hcp=>?_⟩
  rw[X1m]
  have s12:=Z0f hcp (.lst (qs.map V.ref))
  have h12:upd H11 cp (.lst (qs.map V.ref)) cp=some (.lst (qs.map V.ref)):=Z0c
  generalize upd H11 cp (.lst (qs.map V.ref))=H12 at *
  refine⟨_,rfl,lb,ps,f,c,rfl,(B11.same s12).bo,c1,c6,oz,nv,fun lr' H13 qs' S' fr' S13 h13 MK' KP'=>?_⟩
  have eS:S=S':=KP.uniq c6 nv KP'
  subst eS
  refine⟨cp,lr',qs,qs',_,_,rfl,rfl,S13 _ _ h12,h13,((M11.same s12).same S13).rows,MK'.rows,?_⟩
  show Q (.bl (decide (S.map K62T.rowM=S.map K62T.rowM))) H13
  rw[decide_eq_true rfl]
  exact fin _
end
end K62
noncomputable section
namespace K62
open PySem PySem.Spec PyProof.Rows L2 Ba
theorem X8i {l:PySem.W.OpenLaw}{w:World}{K:PySem.W.Frag}{h:Heap}{mg:Str->Option Value}{fa f:Addr}(X:K.In h)(G:h.Ns mainGlobals mg)(hfa:mg "law"=some (.ref fa))
  {od an:Option Addr}{sl:Array (Option Value)}{oc kV dc pm cd ct:Value}{aN aO aZ Dd:Addr}{odO odZ odD:Option Addr}{slO slZ slD:Array (Option Value)}{ocD:Value}{nO nZ nD:Nat}{d0 o1 o2 o3 o4 o5 y1 y2 y3 y4 y5:Tok}{nN:Nat}{a1 a2 a3 a4 a5 a6 a7 b1 b2 b3 b4 b5 b6 b7 tM:Tok}{aP:Addr}{odP:Option Addr}{slP:Array (Option Value)}{nP:Nat}{q0 q1 q2 tF:Tok}
  (aL:PySem.W.nsIn K mainGlobals "law"=some (some (.ref f))) (lL:K.lookup f=some ⟨oc,od,.func (PySem.W.fnOf "law" "law" (Z1s (top 89)) (Z1m (top 89)) (Z0i (top 89)) .none kV dc pm an cd ct),sl⟩) (cL:PySem.W.codeIn K cd "law"=true) (kL:PySem.W.keepIn K (.ref f)=true)
  (t7:FunAt K "is_whole" (top 7) .none)
  (t9:FunAt K "halved_out" (top 9) .none)
  (t10:FunAt K "plus" (top 10) .none)
  (t11:FunAt K "minus" (top 11) .none)
  (t12:FunAt K "spun" (top 12) .none)
  (t13:FunAt K "spun_once" (top 13) .none)
  (t14:FunAt K "rooted" (top 14) .none)
  (t16:FunAt K "ones" (top 16) .none)
  (t17:FunAt K "is_word" (top 17) .none)
  (t18:FunAt K "is_mark" (top 18) .none)
  (t19:FunAt K "is_even" (top 19) .none)
  (t20:FunAt K "is_even_mark" (top 20) .none)
  (t21:FunAt K "commute" (top 21) .none)
  (t22:FunAt K "product" (top 22) .none)
  (t27:FunAt K "start" (top 27) (.ref Dd))
  (t28:FunAt K "check_beginning" (top 28) .none)
  (t29:FunAt K "cells_of" (top 29) .none)
  (t31:FunAt K "solved" (top 31) .none)
  (t32:FunAt K "cleared" (top 32) .none)
  (t33:FunAt K "places_at_one" (top 33) .none)
  (t34:FunAt K "solution" (top 34) .none)
  (t38:FunAt K "is_table" (top 38) .none)
  (t39:FunAt K "commutes_with_all" (top 39) .none)
  (t40:FunAt K "check_table" (top 40) .none)
  (t41:FunAt K "reduced" (top 41) .none)
  (t42:FunAt K "without_lead" (top 42) .none)
  (t43:FunAt K "lead" (top 43) .none)
  (t44:FunAt K "least_cell" (top 44) .none)
  (t45:FunAt K "has_at_lead" (top 45) .none)
  (t46:FunAt K "made_of" (top 46) .none)
  (t47:FunAt K "rows_with" (top 47) .none)
  (t48:FunAt K "product_of" (top 48) .none)
  (t49:FunAt K "apart_by" (top 49) .none)
  (t51:FunAt K "keepers" (top 51) .none)
  (t52:FunAt K "keepers_with" (top 52) .none)
  (t53:FunAt K "spins_on" (top 53) .none)
  (t54:FunAt K "has_spins" (top 54) .none)
  (t57:FunAt K "check_move" (top 57) .none)
  (t58:FunAt K "has_move_form" (top 58) .none)
  (t59:FunAt K "named_cells" (top 59) .none)
  (t60:FunAt K "turned" (top 60) .none)
  (t61:FunAt K "mixed" (top 61) .none)
  (t62:FunAt K "mixed_at" (top 62) .none)
  (t63:FunAt K "spun_where" (top 63) .none)
  (t64:FunAt K "word_behind" (top 64) .none)
  (t65:FunAt K "exchanged" (top 65) .none)
  (t67:FunAt K "run" (top 67) .none)
  (t69:FunAt K "_law_cell_at" (top 69) .none)
  (t70:FunAt K "_law_whole" (top 70) .none)
  (t71:FunAt K "_law_cells_by" (top 71) .none)
  (t72:FunAt K "_law_low" (top 72) .none)
  (t73:FunAt K "_law_spin" (top 73) .none)
  (t74:FunAt K "_law_amount_by" (top 74) .none)
  (t75:FunAt K "_law_board_by" (top 75) .none)
  (t76:FunAt K "_law_mark_by" (top 76) .none)
  (t77:FunAt K "_law_bits" (top 77) .none)
  (t78:FunAt K "_law_times" (top 78) .none)
  (t79:FunAt K "_law_move_by" (top 79) .none)
  (t80:FunAt K "_law_plain_row" (top 80) .none)
  (t81:FunAt K "_law_held_board" (top 81) .none)
  (t82:FunAt K "_law_keeps" (top 82) .none)
  (t83:FunAt K "_law_lead" (top 83) .none)
  (t84:FunAt K "_law_is_mark" (top 84) .none)
  (t85:FunAt K "_law_is_reduced" (top 85) .none)
  (t86:FunAt K "_law_product" (top 86) .none)
  (t87:FunAt K "_law_made" (top 87) .none)
  (t88:FunAt K "_law_tried" (top 88) .none)
  (z0:PySem.W.nsIn K mainGlobals "isinstance"=some none)
  (z1:PySem.W.nsIn K mainGlobals "int"=some none)
  (z2:PySem.W.nsIn K mainGlobals "bool"=some none)
  (z3:PySem.W.nsIn K mainGlobals "tuple"=some none)
  (z4:PySem.W.nsIn K mainGlobals "list"=some none)
  (z5:PySem.W.nsIn K mainGlobals "len"=some none)
  (z6:PySem.W.nsIn K mainGlobals "range"=some none)
  (z7:PySem.W.nsIn K mainGlobals "all"=some none)
  (z8:PySem.W.nsIn K mainGlobals "any"=some none)
  (z9:PySem.W.nsIn K mainGlobals "max"=some none)
  (z10:PySem.W.nsIn K mainGlobals "min"=some none)
  (z11:PySem.W.nsIn K mainGlobals "zip"=some none)
  (z12:PySem.W.nsIn K mainGlobals "set"=some none)
  (z13:PySem.W.nsIn K mainGlobals "str"=some none)
  (z14:PySem.W.nsIn K mainGlobals "enumerate"=some none)
  (z15:PySem.W.nsIn K mainGlobals "reversed"=some none)
  (z16:PySem.W.nsIn K mainGlobals "sorted"=some none)
  (z17:PySem.W.nsIn K mainGlobals "sum"=some none)
  (gM0:PySem.W.nsIn K mainGlobals "MOST_CELLS"=some (some (.int 6 tM)))
  (tD:K.lookup Dd=some ⟨ocD,odD,.seq #[.int 0 d0] nD,slD⟩)
  (gO0:PySem.W.nsIn K mainGlobals "ONE"=some (some (.ref aO)))
  (tO:K.lookup aO=some ⟨.type "tuple",odO,.seq #[.int 1 o1,.int 0 o2,.int 0 o3,.int 0 o4,.int 0 o5] nO,slO⟩)
  (gZ0:PySem.W.nsIn K mainGlobals "NOUGHT"=some (some (.ref aZ)))
  (tZ:K.lookup aZ=some ⟨.type "tuple",odZ,.seq #[.int 0 y1,.int 0 y2,.int 0 y3,.int 0 y4,.int 0 y5] nZ,slZ⟩)
  (gN0:PySem.W.nsIn K mainGlobals "NUMBERS_BEHIND"=some (some (.ref aN)))
  (tN:K.lookup aN=some ⟨.type "dict",none,.dict #[⟨PyData.keyHash w.params "flip",.str "flip" a1,.int 1 b1⟩,⟨PyData.keyHash w.params "mix",.str "mix" a2,.int 1 b2⟩,⟨PyData.keyHash w.params "turn",.str "turn" a3,.int 2 b3⟩,⟨PyData.keyHash w.params "if",.str "if" a4,.int 2 b4⟩,⟨PyData.keyHash w.params "pair",.str "pair" a5,.int 2 b5⟩,⟨PyData.keyHash w.params "swap",.str "swap" a6,.int 2 b6⟩,⟨PyData.keyHash w.params "cross",.str "cross" a7,.int 3 b7⟩] nN,#[]⟩)
  (nN0:(aN == sysModules)=false)
  (gP0:PySem.W.nsIn K mainGlobals "PRODUCT_OF_NONE"=some (some (.ref aP)))
  (tP:K.lookup aP=some ⟨.type "tuple",odP,.seq #[.int 0 q0,.int 0 q1,.int 0 q2] nP,slP⟩)
  (gF0:PySem.W.nsIn K mainGlobals "FIRST_SIGN_LEAD"=some (some (.int 6 tF)))
  : ∃ fd:FuncData,(∀ (s:Shared) (v:Value),BindsTo s fd ⟨[v],[]⟩ [("_law_script",v)])/\∀ base:Heap,K.In base->base.Ns mainGlobals mg->FnOk l.prog w K mg base CX0 9 fa fd ["_law_script"] (spLaw K 63):=by
 have e:=hfa.symm.trans (PySem.W.mg_of X G aL)
 cases e
 have F:=X7s (st:=top 89) lL cL kL
 have B:Bs mg:=⟨PySem.W.mg_none_of X G z0,PySem.W.mg_none_of X G z1,PySem.W.mg_none_of X G z2,PySem.W.mg_none_of X G z3,PySem.W.mg_none_of X G z4,PySem.W.mg_none_of X G z5,PySem.W.mg_none_of X G z6,PySem.W.mg_none_of X G z7,PySem.W.mg_none_of X G z8,PySem.W.mg_none_of X G z9,PySem.W.mg_none_of X G z10,PySem.W.mg_none_of X G z11,PySem.W.mg_none_of X G z12,PySem.W.mg_none_of X G z13,PySem.W.mg_none_of X G z14,PySem.W.mg_none_of X G z15,PySem.W.mg_none_of X G z16,PySem.W.mg_none_of X G z17⟩
 refine⟨PySem.W.fnOf "law" "law" (Z1s (top 89)) (Z1m (top 89)) (Z0i (top 89)) .none kV dc pm an cd ct,fun s v=>.of_eq rfl,fun base _ _=>?_⟩
 have gN:=PySem.W.mg_of X G gN0
 have gP:=PySem.W.mg_of X G gP0
 have gF:=PySem.W.mg_of X G gF0
 have gZ:=PySem.W.mg_of X G gZ0
 have sP:∀ H:Hp,SqT K H aP (K62T.L3 (0,0,0)):=fun H=>.inr ⟨_,_,_,tP,rfl,rfl,(by show 3<=sizeLine;decide),.cons ⟨_,rfl⟩ (.cons ⟨_,rfl⟩ (.cons ⟨_,rfl⟩ .nil))⟩
 have BT:K62T.Bs mg:=⟨B.isinstance,B.int,B.bool,B.tuple,B.list,B.len,B.range,B.enumerate,B.sorted,B.sum,B.str,B.all,B.any,B.min,B.max⟩
 have DN:KDic K w.params aN NB:=⟨⟨_,_,_,tN,⟨rfl,rfl,rfl⟩,rfl,.cons ⟨_,_,rfl⟩ (.cons ⟨_,_,rfl⟩ (.cons ⟨_,_,rfl⟩ (.cons ⟨_,_,rfl⟩ (.cons ⟨_,_,rfl⟩ (.cons ⟨_,_,rfl⟩ (.cons ⟨_,_,rfl⟩ .nil))))))⟩,by decide +kernel,nN0⟩
 have c9:=X4k (P:=l.prog) (w:=w) (base:=base) (k:=0) t9 X G B
 have c13:=X4d (P:=l.prog) (w:=w) (base:=base) (k:=0) t13 X G
 have c14:=Y6s t14 X G c9
 have c12:=X3z t12 X G B c13
 have c10:=X4b t10 X G B c9
 have c11:=X0j t11 X G c10 c12
 have c7:=Z5n (P:=l.prog) (w:=w) (base:=base) (k:=0) t7 X G B
 have c29:=Y4v (P:=l.prog) (w:=w) (base:=base) (k:=0) t29 X G B
 have c59:=X0h (P:=l.prog) (w:=w) (base:=base) (k:=0) t59 X G B
 have c58:=X4l t58 X G B gN DN c7
 have c57:=X0p t57 X G B c58 (c59.mono (by decide))
 have c62:=Y4s t62 X G (c14.mono (by decide)) c11 (c10.mono (by decide))
 have c61:=X0i t61 X G B c62
 have c65:=X4m (P:=l.prog) (w:=w) (base:=base) (k:=0) t65 X G
 have c64:=Y7d t64 X G c59 c65
 have c63:=X0b t63 X G B c12
 have c60:=Y6q (k:=5) t60 X G B (c57.mono (by decide)) (c29.mono (by decide)) c61 (c63.mono (by decide)) (c64.mono (by decide))
 have c67:=X6y t67 X G B c60
 have c69:=X4n (P:=l.prog) (w:=w) (base:=base) (k:=0) t69 X G B
 have c70:=X0a (P:=l.prog) (w:=w) (base:=base) (k:=0) t70 X G B
 have c72:=X6z (P:=l.prog) (w:=w) (base:=base) (k:=0) t72 X G B
 have c73:=X4a (P:=l.prog) (w:=w) (base:=base) (k:=0) t73 X G B
 have c79:=Y6v (P:=l.prog) (w:=w) (base:=base) (k:=0) t79 X G B
 have c17:=Z6w t17 X G c7
 have c28:=X0r (PySem.W.mg_of X G gM0) t28 X G (c7.mono (by decide)) c17
 have c27:=X0e t27 (Y1w tD) X G B (PySem.W.mg_of X G gO0) gZ (kept5 tO) (kept5 tZ) c28
 have c16:=K62T.X4c (P:=l.prog) (w:=w) (base:=base) (k:=0) t16 X G
 have c22:=K62T.Y4r t22 X G c16
 have c32:=K62T.Y4u (P:=l.prog) (w:=w) (base:=base) (k:=0) t32 X G
 have c33:=K62T.Y6u (P:=l.prog) (w:=w) (base:=base) (k:=0) t33 X G BT
 have c34:=K62T.Y1h t34 X G BT c16
 have c31:=K62T.Y6r (k:=2) t31 X G BT (c32.mono (by decide)) (c33.mono (by decide)) c34
 have c47:=K62T.Y1i (P:=l.prog) (w:=w) (base:=base) (k:=0) t47 X G BT
 have c48:=K62T.Y6t t48 X G gP sP c22
 have c49:=K62T.X0s t49 X G BT c16
 have c46:=K62T.Y6x (k:=3) t46 X G BT (c47.mono (by decide)) c31 (c49.mono (by decide)) c48
 have c44:=K62T.X0l (P:=l.prog) (w:=w) (base:=base) (k:=0) t44 X G
 have c43:=K62T.X4f t43 X G gF c44
 have c45:=K62T.X7b (P:=l.prog) (w:=w) (base:=base) (k:=0) t45 X G gF
 have c42:=K62T.Y4p (k:=2) t42 X G (c45.mono (by decide)) c43 c22
 have iw:=K62T.Z5n (P:=l.prog) (w:=w) (base:=base) (k:=0) t7 X G BT
 have id:=K62T.Z6w t17 X G iw
 have c18:=K62T.Y6z (k:=2) t18 X G BT (iw.mono (by decide)) id
 have c19:=K62T.Y7a t19 X G c16
 have c20:=K62T.X0o (k:=3) t20 X G c18 (c19.mono (by decide))
 have c21:=K62T.Y1j t21 X G c16
 have c39:=K62T.Y7b t39 X G BT c21
 have c38:=K62T.Y4t (k:=4) t38 X G BT (iw.mono (by decide)) c20 (c39.mono (by decide)) c46
 have c40:=K62T.Y7c t40 X G c38
 have c41:=K62T.Y4q (k:=4) t41 X G BT c40 (c42.mono (by decide)) (c43.mono (by decide))
 have c53:=X0f gZ (kept5 tZ) t53 X G B c12
 have c54:=X4j t54 X G c16
 have c52:=X8q (k:=3) t52 X G B c53 (c16.mono (by decide)) (c54.mono (by decide))
 have c51:=X4g (k:=7) t51 X G B (c29.mono (by decide)) (c52.mono (by decide)) (c46.mono (by decide)) c41
 have c77:=X4o (P:=l.prog) (w:=w) (base:=base) (k:=0) t77 X G
 have c76:=Y6w (P:=l.prog) (w:=w) (base:=base) (k:=0) t76 X G
 have c71:=X0q (P:=l.prog) (w:=w) (base:=base) (k:=0) t71 X G
 have c74:=V.X0t t74 X G B c72 c73
 have c75:=V.X4p (k:=2) t75 X G B (c69.mono (by decide)) c74
 have c78:=Y6y t78 X G B c72
 have c80:=X0g t80 X G B c79
 have c81:=X4i (k:=7) t81 X G B (c69.mono (by decide)) (c74.mono (by decide)) (c75.mono (by decide)) (c73.mono (by decide)) (c79.mono (by decide)) (c80.mono (by decide)) (c78.mono (by decide)) (c27.mono (by decide)) c67
 have c82:=X0m t82 X G B c73 c77
 have c83:=X0k (P:=l.prog) (w:=w) (base:=base) (k:=0) t83 X G B
 have c84:=X4h t84 X G B c70 c77
 have c85:=X0n (k:=2) t85 X G B (c83.mono (by decide)) c84
 have c86:=Y1k t86 X G c77
 have c87:=X4e t87 X G B c86
 have c88:=X0c t88 X G B c69 c76
 exact X7a (k:=8) (by decide) F B (c69.mono (by decide)) (c71.mono (by decide)) c81 c51 (c85.mono (by decide)) (c82.mono (by decide)) (c87.mono (by decide)) (c88.mono (by decide)) (c77.mono (by decide))
theorem walk {l:PySem.W.OpenLaw}{q:Program}{loose:List Str}{XP:(Str->Option Value)->Heap->Prop}{YP:World->Heap->Prop}{d:DefRec}{K:Params->PySem.W.Frag}(hn:l.most=some 63)(hdf:d.params.defaults=[])
  (hY:∀ (w:World) (h:Heap),YP w h->(K w.params).In h)
  (F:∀ (w:World) (mg:Str->Option Value) (fa:Addr) (h:Heap),(K w.params).In h->h.Ns mainGlobals mg->mg d.name=some (.ref fa) →
   ∃ fd:FuncData,(∀ (s:Shared) (u:Value),BindsTo s fd ⟨[u],[]⟩ [("_law_script",u)])/\∀ base:Heap,(K w.params).In base->base.Ns mainGlobals mg->FnOk l.prog w (K w.params) mg base CX0 9 fa fd ["_law_script"] (spLaw (K w.params) 63)) :
  PySem.W.WalkO q loose XP YP l.row.toRowW d [] (fun f vs=>PySem.call f vs) :=
 L2.Y4i (n:=63) (k:=9) (x:="_law_script") (CX:=fun _=>CX0) (sp:=fun w=>spLaw (K w.params) 63) hn (by decide) hdf ⟨rfl,by decide,by decide⟩ hY F (fun _ _ a ns hl lt hS=>⟨a,ns,rfl,hS,hl,lt,fun _=>rfl⟩) fun _ _ _ _ _ z=>z
namespace Hd
open PySem.W
set_option maxHeartbeats 0
abbrev pr:Program:=PySem.Challenge.pw_spinboard_k62_whole_all_keepers
abbrev kh:=PyData.keyHash
def dPos (s:Stmt):Pos:=match s with
 | .FunctionDef _ _ _ _ _ _ _ _ _ p=>p
 | _=>⟨0,0,0,0⟩
def life:Life:=(Life.mk [] [] [] 0 [] [] false #[] [] 0 false false false 0 [2000,10,10] false 0 true [] [] 0 false)
def en:Env:={ scope:=pr.main.scope,locals:=mainNs,globals:=mainNs,cells:=[],code:=(.ref 13),frame:=some 14 }
def dn (P:Params)(x:Str)(t:Nat)(v:Value):DictEntry:=DictEntry.mk (kh P x) (.str x t) v
def cob (n:Str)(t1:Nat)(q:Str)(t2 t3:Nat)(i1 i2 i3 i4 i5:Int)(r1:Addr)(b:Bool)(i6:Int)(r2:Addr)(v1 v2 v3:Value)(i7 i8:Int)(t4:Nat):Obj:=Obj.mk (.type "code") none (Data.fields #[.str n t1,.str q t2,.str "/claim/cut.py" t3,.int i1 0,.int i2 0,.int i3 0,.int i4 0,.int i5 0,.ref r1,.bool b,.int i6 0,.ref r2,.none,v1,v2,v3,.int i7 0,.int i8 0,.str "/claim/cut.py" t4]) #[]
def fo1 (n q:Str)(s:Stmt)(k j:Nat):Obj:=Obj.mk .none none (Data.func (FuncData.mk n q (Z1s s) (FuncBody.stmts (Z1m s)) (Z0i s) k [] .none .none .none .none none .none .none j)) #[]
def fo2 (n q:Str)(s:Stmt)(k:Nat)(m:Str)(t:Nat)(c:Addr)(j:Nat):Obj:=Obj.mk (.type "function") none (Data.func (FuncData.mk n q (Z1s s) (FuncBody.stmts (Z1m s)) (Z0i s) k [] .none .none .none (.str m t) none (.ref c) .none j)) #[]
def sq0 (T:String)(n:Nat):Obj:=Obj.mk (.type T) none (Data.seq #[] n) #[]
def nf0:Obj:=Obj.mk .none none (Data.fields #[]) #[]
abbrev Pz:=Params
abbrev tz:Obj:=sq0 "tuple" 0
def iL (t:BT):List (Nat × Obj)->BT
 | []=>t
 | x::l=>iL (t.ins x.1 x.2) l
def iF (t:BT):Nat->List Obj->BT
 | _,[]=>t
 | n,x::l=>iF (t.ins n x) (n+1) l
def ob3 (l:List DictEntry)(n:Nat):Obj:=Obj.mk (.type "dict") none (Data.dict (Array.mk l) n) #[]
def ob12 (l:List Value):Obj:=Obj.mk .none none (Data.fields (Array.mk l)) #[]
def j13(P:Pz):=(cob "<module>" 182 "<module>" 183 184 1 0 0 0 0 11 false 181 12 .none .none .none 185 1 186)
def j14(P:Pz):=Obj.mk (.type "frame") none Data.plain #[(some (.ref 13)),(some (.ref 3)),(some (.ref 3)),none,(some (.str "__main__" 164)),none,(some (.ref 0))]
def Ha (P:Pz):Heap:=Heap.mk (Array.mk [boot_o_0 P,boot_o_1 P,boot_o_2 P,boot_o_3 P,boot_o_4 P,boot_o_5 P,boot_o_6 P,boot_o_7 P,boot_o_8 P,boot_o_9 P,boot_o_10 P,tz,nf0,j13 P,j14 P]) life
def T0 (P:Pz):BT:=(.node (boot_o_0 P) (.node (boot_o_1 P) (.node (boot_o_3 P) (.node (boot_o_7 P) .nil .nil) (.node tz .nil .nil)) (.node (boot_o_5 P) (.node (boot_o_9 P) .nil .nil) (.node (j13 P) .nil .nil))) (.node (boot_o_2 P) (.node (boot_o_4 P) (.node (boot_o_8 P) .nil .nil) (.node nf0 .nil .nil)) (.node (boot_o_6 P) (.node (boot_o_10 P) .nil .nil) (.node (j14 P) .nil .nil))))
def l0:List Stmt:=[top 0,top 1]
def l1:List Stmt:=[top 2]
def l2:List Stmt:=[top 3]
def l3:List Stmt:=[top 4]
def l4:List Stmt:=[top 5,top 6,top 7,top 8,top 9,top 10,top 11,top 12]
def l5:List Stmt:=[top 13,top 14,top 15,top 16,top 17,top 18,top 19,top 20,top 21,top 22,top 23,top 24,top 25,top 26,top 27,top 28]
def l6:List Stmt:=[top 29,top 30,top 31,top 32,top 33,top 34,top 35,top 36,top 37,top 38,top 39,top 40,top 41,top 42,top 43,top 44]
def l7:List Stmt:=[top 45,top 46,top 47,top 48,top 49,top 50,top 51,top 52,top 53,top 54,top 55,top 56]
def l8:List Stmt:=[top 57,top 58,top 59,top 60,top 61,top 62,top 63,top 64,top 65,top 66,top 67,top 68,top 69,top 70,top 71]
def l9:List Stmt:=[top 72,top 73,top 74,top 75,top 76,top 77,top 78,top 79,top 80,top 81,top 82,top 83,top 84]
def l10:List Stmt:=[top 85,top 86,top 87,top 88,top 89]
def bE:List Stmt:=l0++(l1++(l2++(l3++(l4++(l5++(l6++(l7++(l8++(l9++(l10++[]))))))))))
abbrev cE:Code:=Code.body bE en
abbrev BB:List Frame:=[topFrame (Pos.mk 0 0 0 0)]
theorem pre_ (w:World)(os:OsState):topGo treeTable pr w 11 (some (.ref 6)) 12 (Shared.mk (boot_heap w.params) (Array.mk []) boot_drawn boot_toks os) (topStub pr)=some (Shared.mk (Ha w.params) (Array.mk []) (Drawn.mk 0 0 0 0) 187 os,Thread.mk (denote treeTable cE) cE (Pos.mk 0 0 0 0) BB):=by rw[PySem.W.Fast.te15667345088766844465,PySem.W.Fast.te11892475500146522536,PySem.W.Fast.te14364793385576792824];kernel_rfl
theorem X8g (w:World)(os:OsState):segRun treeTable pr w 11 (some (.ref 6)) 1 1 (Shared.mk (Ha w.params) (Array.mk []) (Drawn.mk 0 0 0 0) 187 os) (blockOf bE en cE (Pos.mk 0 0 0 0) BB)=some (Flow.next,(SharedT.mk (T0 w.params) 15 life (Array.mk []) (Drawn.mk 0 0 0 0) 187 os).abs,cE,(Pos.mk 0 0 0 0)):=by rw[PySem.W.Fast.te14374325043358763698,PySem.W.Fast.te14364793385576792824];kernel_rfl
def y3_2(P:Pz):List DictEntry:=[(dn P "__doc__" 166 .none),(dn P "__package__" 167 .none),(dn P "__loader__" 168 (.builtin "__main__.__loader__#opaque")),(dn P "__spec__" 169 .none),(dn P "__annotations__" 170 (.ref 6)),(dn P "__builtins__" 171 (.ref 4)),(dn P "__file__" 173 (.str "/claim/cut.py" 172)),(dn P "__cached__" 174 .none),(dn P "BoardError" 206 (.ref 24))]
def j3_2(P:Pz):=ob3 ((dn P "__name__" 165 (.str "spinboard.errors" 187))::y3_2 P) 10
def X6j(P:Pz):List Value:=[(.int 2 0),(.int 0 0),(.ref 20)]
def X9h(P:Pz):=ob12 (X6j P)
def j15(P:Pz):=Obj.mk (.type "tuple") none (Data.seq #[(.type "ValueError")] 0) #[]
def j16(P:Pz):=Obj.mk (.type "builtin_function_or_method") none (Data.fields #[(.builtin "type.__prepare__"),(.type "type")]) #[]
def j17(P:Pz):=ob3 [(dn P "__module__" 196 (.str "spinboard.errors" 187)),(dn P "__qualname__" 198 (.str "BoardError" 197)),(dn P "__firstlineno__" 200 (.int 2 199)),(dn P "__static_attributes__" 201 (.ref 22))] 4
def j20(P:Pz):=(cob "BoardError" 191 "BoardError" 192 193 2 0 0 0 0 18 false 181 19 .none .none .none 194 2 195)
def j21(P:Pz):=Obj.mk (.type "frame") none Data.plain #[(some (.ref 20)),(some (.ref 3)),(some (.ref 17)),none,(some (.str "spinboard.errors" 187)),none,(some (.ref 0))]
def j23(P:Pz):=ob3 [(dn P "__module__" 196 (.str "spinboard.errors" 187)),(dn P "__firstlineno__" 200 (.int 2 199)),(dn P "__static_attributes__" 201 (.ref 22)),(dn P "__weakref__" 203 (.ref 25)),(dn P "__doc__" 204 .none)] 3
def X8z(P:Pz):=Obj.mk (.type "type") none (Data.cls (ClassData.mk "BoardError" [(.type "ValueError")] [(.ref 24),(.type "ValueError"),(.type "Exception"),(.type "BaseException"),(.type "object")] 23 "BoardError" true [] [] false none false)) #[(some (.ref 15)),none,(some (.str "BoardError" 189)),(some (.str "BoardError" 197)),(some (.builtin "ValueError.__new__")),(some (.bool true))]
def j25(P:Pz):=Obj.mk (.type "getset_descriptor") none (Data.fields #[(.str "__weakref__" 202),(.ref 24),(.builtin "ExceptionGroup.__weakref__"),.none]) #[]
def j26(P:Pz):=Obj.mk (.type "super") none (Data.fields #[(.ref 24),(.ref 24),(.ref 24)]) #[]
def j27(P:Pz):=Obj.mk (.type "builtin_function_or_method") none (Data.fields #[(.builtin "object.__init_subclass__"),(.ref 24)]) #[]
def T1 (P:Pz):BT:=iF (iL (T0 P) [(3,j3_2 P),(12,X9h P)]) 15 [j15 P,j16 P,j17 P,tz,nf0,j20 P,j21 P,tz,j23 P,X8z P,j25 P,j26 P,j27 P]
theorem g0 (p:Program)(b:List Stmt)(w:World)(os:OsState):segRunT treeTable p w 11 (some (.ref 6)) 1 196 (SharedT.mk (T0 w.params) 15 life (Array.mk []) (Drawn.mk 0 0 0 0) 187 os) (piecesOf l0 en (Code.body b en) (Pos.mk 0 0 0 0) BB)=some (Flow.next,(SharedT.mk (T1 w.params) 28 life (Array.mk []) (Drawn.mk 0 0 0 0) 207 os),Code.body b en,(Pos.mk 2 0 3 8)):=by rw[PySem.W.Fast.te10110043849684766642,PySem.W.Fast.te14364793385576792824];kernel_rfl
def y3_3(P:Pz):List DictEntry:=y3_2 P++[(dn P "NoBoard" 222 (.ref 37))]
def j3_3(P:Pz):=ob3 ((dn P "__name__" 165 (.str "spinboard.errors" 187))::y3_3 P) 11
def X6i(P:Pz):List Value:=X6j P++[(.int 4 0),(.int 0 0),(.ref 33)]
def X9g(P:Pz):=ob12 (X6i P)
def X8y(P:Pz):=Obj.mk (.type "type") none (Data.cls (ClassData.mk "BoardError" [(.type "ValueError")] [(.ref 24),(.type "ValueError"),(.type "Exception"),(.type "BaseException"),(.type "object")] 23 "BoardError" true [] [(.ref 37)] false none false)) #[(some (.ref 15)),none,(some (.str "BoardError" 189)),(some (.str "BoardError" 197)),(some (.builtin "ValueError.__new__")),(some (.bool true))]
def j28(P:Pz):=Obj.mk (.type "tuple") none (Data.seq #[(.ref 24)] 0) #[]
def j30(P:Pz):=ob3 [(dn P "__module__" 214 (.str "spinboard.errors" 187)),(dn P "__qualname__" 216 (.str "NoBoard" 215)),(dn P "__firstlineno__" 218 (.int 4 217)),(dn P "__static_attributes__" 219 (.ref 35))] 4
def j33(P:Pz):=(cob "NoBoard" 209 "NoBoard" 210 211 4 0 0 0 0 31 false 181 32 .none .none .none 212 4 213)
def j34(P:Pz):=Obj.mk (.type "frame") none Data.plain #[(some (.ref 33)),(some (.ref 3)),(some (.ref 30)),none,(some (.str "spinboard.errors" 187)),none,(some (.ref 0))]
def j36(P:Pz):=ob3 [(dn P "__module__" 214 (.str "spinboard.errors" 187)),(dn P "__firstlineno__" 218 (.int 4 217)),(dn P "__static_attributes__" 219 (.ref 35)),(dn P "__doc__" 220 .none)] 2
def j37(P:Pz):=Obj.mk (.type "type") none (Data.cls (ClassData.mk "NoBoard" [(.ref 24)] [(.ref 37),(.ref 24),(.type "ValueError"),(.type "Exception"),(.type "BaseException"),(.type "object")] 36 "NoBoard" true [] [] false none false)) #[(some (.ref 28)),none,(some (.str "NoBoard" 207)),(some (.str "NoBoard" 215)),(some (.builtin "ValueError.__new__")),(some (.bool true))]
def j38(P:Pz):=Obj.mk (.type "super") none (Data.fields #[(.ref 37),(.ref 37),(.ref 37)]) #[]
def j39(P:Pz):=Obj.mk (.type "builtin_function_or_method") none (Data.fields #[(.builtin "object.__init_subclass__"),(.ref 37)]) #[]
def T2 (P:Pz):BT:=iF (iL (T1 P) [(3,j3_3 P),(12,X9g P),(24,X8y P)]) 28 [j28 P,j16 P,j30 P,tz,nf0,j33 P,j34 P,tz,j36 P,j37 P,j38 P,j39 P]
theorem g1 (p:Program)(b:List Stmt)(w:World)(os:OsState):segRunT treeTable p w 11 (some (.ref 6)) 1 214 (SharedT.mk (T1 w.params) 28 life (Array.mk []) (Drawn.mk 0 0 0 0) 207 os) (piecesOf l1 en (Code.body b en) (Pos.mk 2 0 3 8) BB)=some (Flow.next,(SharedT.mk (T2 w.params) 40 life (Array.mk []) (Drawn.mk 0 0 0 0) 223 os),Code.body b en,(Pos.mk 4 0 5 8)):=by rw[PySem.W.Fast.te10110043849684766642,PySem.W.Fast.te14364793385576792824];kernel_rfl
def y3_4(P:Pz):List DictEntry:=y3_3 P++[(dn P "NoMove" 238 (.ref 49))]
def j3_4(P:Pz):=ob3 ((dn P "__name__" 165 (.str "spinboard.errors" 187))::y3_4 P) 12
def X6h(P:Pz):List Value:=X6i P++[(.int 6 0),(.int 0 0),(.ref 45)]
def X9f(P:Pz):=ob12 (X6h P)
def X8x(P:Pz):=Obj.mk (.type "type") none (Data.cls (ClassData.mk "BoardError" [(.type "ValueError")] [(.ref 24),(.type "ValueError"),(.type "Exception"),(.type "BaseException"),(.type "object")] 23 "BoardError" true [] [(.ref 37),(.ref 49)] false none false)) #[(some (.ref 15)),none,(some (.str "BoardError" 189)),(some (.str "BoardError" 197)),(some (.builtin "ValueError.__new__")),(some (.bool true))]
def j42(P:Pz):=ob3 [(dn P "__module__" 230 (.str "spinboard.errors" 187)),(dn P "__qualname__" 232 (.str "NoMove" 231)),(dn P "__firstlineno__" 234 (.int 6 233)),(dn P "__static_attributes__" 235 (.ref 47))] 4
def j45(P:Pz):=(cob "NoMove" 225 "NoMove" 226 227 6 0 0 0 0 43 false 181 44 .none .none .none 228 6 229)
def j46(P:Pz):=Obj.mk (.type "frame") none Data.plain #[(some (.ref 45)),(some (.ref 3)),(some (.ref 42)),none,(some (.str "spinboard.errors" 187)),none,(some (.ref 0))]
def j48(P:Pz):=ob3 [(dn P "__module__" 230 (.str "spinboard.errors" 187)),(dn P "__firstlineno__" 234 (.int 6 233)),(dn P "__static_attributes__" 235 (.ref 47)),(dn P "__doc__" 236 .none)] 2
def j49(P:Pz):=Obj.mk (.type "type") none (Data.cls (ClassData.mk "NoMove" [(.ref 24)] [(.ref 49),(.ref 24),(.type "ValueError"),(.type "Exception"),(.type "BaseException"),(.type "object")] 48 "NoMove" true [] [] false none false)) #[(some (.ref 40)),none,(some (.str "NoMove" 223)),(some (.str "NoMove" 231)),(some (.builtin "ValueError.__new__")),(some (.bool true))]
def j50(P:Pz):=Obj.mk (.type "super") none (Data.fields #[(.ref 49),(.ref 49),(.ref 49)]) #[]
def j51(P:Pz):=Obj.mk (.type "builtin_function_or_method") none (Data.fields #[(.builtin "object.__init_subclass__"),(.ref 49)]) #[]
def T3 (P:Pz):BT:=iF (iL (T2 P) [(3,j3_4 P),(12,X9f P),(24,X8x P)]) 40 [j28 P,j16 P,j42 P,tz,nf0,j45 P,j46 P,tz,j48 P,j49 P,j50 P,j51 P]
theorem g2 (p:Program)(b:List Stmt)(w:World)(os:OsState):segRunT treeTable p w 11 (some (.ref 6)) 1 214 (SharedT.mk (T2 w.params) 40 life (Array.mk []) (Drawn.mk 0 0 0 0) 223 os) (piecesOf l2 en (Code.body b en) (Pos.mk 4 0 5 8) BB)=some (Flow.next,(SharedT.mk (T3 w.params) 52 life (Array.mk []) (Drawn.mk 0 0 0 0) 239 os),Code.body b en,(Pos.mk 6 0 7 8)):=by rw[PySem.W.Fast.te10110043849684766642,PySem.W.Fast.te14364793385576792824];kernel_rfl
def y3_5(P:Pz):List DictEntry:=y3_4 P++[(dn P "NoCell" 254 (.ref 61))]
def j3_5(P:Pz):=ob3 ((dn P "__name__" 165 (.str "spinboard.errors" 187))::y3_5 P) 13
def X6g(P:Pz):List Value:=X6h P++[(.int 8 0),(.int 0 0),(.ref 57)]
def X9e(P:Pz):=ob12 (X6g P)
def X8w(P:Pz):=Obj.mk (.type "type") none (Data.cls (ClassData.mk "BoardError" [(.type "ValueError")] [(.ref 24),(.type "ValueError"),(.type "Exception"),(.type "BaseException"),(.type "object")] 23 "BoardError" true [] [(.ref 37),(.ref 49),(.ref 61)] false none false)) #[(some (.ref 15)),none,(some (.str "BoardError" 189)),(some (.str "BoardError" 197)),(some (.builtin "ValueError.__new__")),(some (.bool true))]
def j54(P:Pz):=ob3 [(dn P "__module__" 246 (.str "spinboard.errors" 187)),(dn P "__qualname__" 248 (.str "NoCell" 247)),(dn P "__firstlineno__" 250 (.int 8 249)),(dn P "__static_attributes__" 251 (.ref 59))] 4
def j57(P:Pz):=(cob "NoCell" 241 "NoCell" 242 243 8 0 0 0 0 55 false 181 56 .none .none .none 244 8 245)
def j58(P:Pz):=Obj.mk (.type "frame") none Data.plain #[(some (.ref 57)),(some (.ref 3)),(some (.ref 54)),none,(some (.str "spinboard.errors" 187)),none,(some (.ref 0))]
def j60(P:Pz):=ob3 [(dn P "__module__" 246 (.str "spinboard.errors" 187)),(dn P "__firstlineno__" 250 (.int 8 249)),(dn P "__static_attributes__" 251 (.ref 59)),(dn P "__doc__" 252 .none)] 2
def j61(P:Pz):=Obj.mk (.type "type") none (Data.cls (ClassData.mk "NoCell" [(.ref 24)] [(.ref 61),(.ref 24),(.type "ValueError"),(.type "Exception"),(.type "BaseException"),(.type "object")] 60 "NoCell" true [] [] false none false)) #[(some (.ref 52)),none,(some (.str "NoCell" 239)),(some (.str "NoCell" 247)),(some (.builtin "ValueError.__new__")),(some (.bool true))]
def j62(P:Pz):=Obj.mk (.type "super") none (Data.fields #[(.ref 61),(.ref 61),(.ref 61)]) #[]
def j63(P:Pz):=Obj.mk (.type "builtin_function_or_method") none (Data.fields #[(.builtin "object.__init_subclass__"),(.ref 61)]) #[]
def T4 (P:Pz):BT:=iF (iL (T3 P) [(3,j3_5 P),(12,X9e P),(24,X8w P)]) 52 [j28 P,j16 P,j54 P,tz,nf0,j57 P,j58 P,tz,j60 P,j61 P,j62 P,j63 P]
theorem g3 (p:Program)(b:List Stmt)(w:World)(os:OsState):segRunT treeTable p w 11 (some (.ref 6)) 1 214 (SharedT.mk (T3 w.params) 52 life (Array.mk []) (Drawn.mk 0 0 0 0) 239 os) (piecesOf l3 en (Code.body b en) (Pos.mk 6 0 7 8) BB)=some (Flow.next,(SharedT.mk (T4 w.params) 64 life (Array.mk []) (Drawn.mk 0 0 0 0) 255 os),Code.body b en,(Pos.mk 8 0 9 8)):=by rw[PySem.W.Fast.te10110043849684766642,PySem.W.Fast.te14364793385576792824];kernel_rfl
def y3_6(P:Pz):List DictEntry:=y3_5 P++[(dn P "NoTable" 270 (.ref 73)),(dn P "is_whole" 279 (.ref 82)),(dn P "halved_out" 295 (.ref 89)),(dn P "plus" 301 (.ref 94)),(dn P "minus" 309 (.ref 101)),(dn P "spun" 319 (.ref 108))]
def j3_6(P:Pz):=ob3 ((dn P "__name__" 165 (.str "spinboard.amounts" 280))::y3_6 P) 19
def X6f(P:Pz):List Value:=X6g P++[(.int 10 0),(.int 0 0),(.ref 69),(.int 13 0),(.int 0 0),(.ref 81),(.int 16 0),(.int 0 0),(.ref 88),(.int 23 0),(.int 0 0),(.ref 93),(.int 29 0),(.int 0 0),(.ref 100),(.int 31 0),(.int 0 0),(.ref 107)]
def X9d(P:Pz):=ob12 (X6f P)
def X5f(P:Pz):=Obj.mk (.type "type") none (Data.cls (ClassData.mk "BoardError" [(.type "ValueError")] [(.ref 24),(.type "ValueError"),(.type "Exception"),(.type "BaseException"),(.type "object")] 23 "BoardError" true [] [(.ref 37),(.ref 49),(.ref 61),(.ref 73)] false none false)) #[(some (.ref 15)),none,(some (.str "BoardError" 189)),(some (.str "BoardError" 197)),(some (.builtin "ValueError.__new__")),(some (.bool true))]
def j66(P:Pz):=ob3 [(dn P "__module__" 262 (.str "spinboard.errors" 187)),(dn P "__qualname__" 264 (.str "NoTable" 263)),(dn P "__firstlineno__" 266 (.int 10 265)),(dn P "__static_attributes__" 267 (.ref 71))] 4
def j69(P:Pz):=(cob "NoTable" 257 "NoTable" 258 259 10 0 0 0 0 67 false 181 68 .none .none .none 260 10 261)
def j70(P:Pz):=Obj.mk (.type "frame") none Data.plain #[(some (.ref 69)),(some (.ref 3)),(some (.ref 66)),none,(some (.str "spinboard.errors" 187)),none,(some (.ref 0))]
def j72(P:Pz):=ob3 [(dn P "__module__" 262 (.str "spinboard.errors" 187)),(dn P "__firstlineno__" 266 (.int 10 265)),(dn P "__static_attributes__" 267 (.ref 71)),(dn P "__doc__" 268 .none)] 2
def j73(P:Pz):=Obj.mk (.type "type") none (Data.cls (ClassData.mk "NoTable" [(.ref 24)] [(.ref 73),(.ref 24),(.type "ValueError"),(.type "Exception"),(.type "BaseException"),(.type "object")] 72 "NoTable" true [] [] false none false)) #[(some (.ref 64)),none,(some (.str "NoTable" 255)),(some (.str "NoTable" 263)),(some (.builtin "ValueError.__new__")),(some (.bool true))]
def j74(P:Pz):=Obj.mk (.type "super") none (Data.fields #[(.ref 73),(.ref 73),(.ref 73)]) #[]
def j75(P:Pz):=Obj.mk (.type "builtin_function_or_method") none (Data.fields #[(.builtin "object.__init_subclass__"),(.ref 73)]) #[]
def j78(P:Pz):=Obj.mk (.type "tuple") none (Data.seq #[(.str "thing" 276)] 0) #[]
def j80(P:Pz):=(fo1 "is_whole" "is_whole" (top 7) 0 0)
def j81(P:Pz):=(cob "is_whole" 273 "is_whole" 274 275 13 1 0 0 3 76 true 181 77 (.ref 78) (.ref 79) (.ref 80) 277 13 278)
def j82(P:Pz):=(fo2 "is_whole" "is_whole" (top 7) 3 "spinboard.shares" 271 81 0)
def j85(P:Pz):=Obj.mk (.type "tuple") none (Data.seq #[(.str "a" 285),(.str "b" 286),(.str "c" 287),(.str "d" 288),(.str "h" 289),(.str "places" 290),(.str "lowest" 291),(.str "less" 292)] 0) #[]
def j87(P:Pz):=(fo1 "halved_out" "halved_out" (top 9) 0 0)
def j88(P:Pz):=(cob "halved_out" 282 "halved_out" 283 284 16 5 0 0 3 83 true 181 84 (.ref 85) (.ref 86) (.ref 87) 293 16 294)
def j89(P:Pz):=(fo2 "halved_out" "halved_out" (top 9) 3 "spinboard.amounts" 280 88 0)
def j92(P:Pz):=(fo1 "plus" "plus" (top 10) 0 0)
def j93(P:Pz):=(cob "plus" 296 "plus" 297 298 23 2 0 0 3 90 true 181 91 .none .none (.ref 92) 299 23 300)
def j94(P:Pz):=(fo2 "plus" "plus" (top 10) 3 "spinboard.amounts" 280 93 0)
def j97(P:Pz):=Obj.mk (.type "tuple") none (Data.seq #[(.str "one" 305),(.str "other" 306)] 0) #[]
def j99(P:Pz):=(fo1 "minus" "minus" (top 11) 0 0)
def j100(P:Pz):=(cob "minus" 302 "minus" 303 304 29 2 0 0 3 95 true 181 96 (.ref 97) (.ref 98) (.ref 99) 307 29 308)
def j101(P:Pz):=(fo2 "minus" "minus" (top 11) 3 "spinboard.amounts" 280 100 0)
def j104(P:Pz):=Obj.mk (.type "tuple") none (Data.seq #[(.str "one" 313),(.str "k" 314),(.str "turning" 315),(.str "step" 316)] 0) #[]
def j106(P:Pz):=(fo1 "spun" "spun" (top 12) 0 0)
def j107(P:Pz):=(cob "spun" 310 "spun" 311 312 31 2 0 0 3 102 true 181 103 (.ref 104) (.ref 105) (.ref 106) 317 31 318)
def j108(P:Pz):=(fo2 "spun" "spun" (top 12) 3 "spinboard.amounts" 280 107 0)
def T5 (P:Pz):BT:=iF (iL (T4 P) [(3,j3_6 P),(12,X9d P),(24,X5f P)]) 64 [j28 P,j16 P,j66 P,tz,nf0,j69 P,j70 P,tz,j72 P,j73 P,j74 P,j75 P,tz,nf0,j78 P,tz,j80 P,j81 P,j82 P,tz,nf0,j85 P,tz,j87 P,j88 P,j89 P,tz,nf0,j92 P,j93 P,j94 P,tz,nf0,j97 P,tz,j99 P,j100 P,j101 P,tz,nf0,j104 P,tz,j106 P,j107 P,j108 P]
theorem g4 (p:Program)(b:List Stmt)(w:World)(os:OsState):segRunT treeTable p w 11 (some (.ref 6)) 1 385 (SharedT.mk (T4 w.params) 64 life (Array.mk []) (Drawn.mk 0 0 0 0) 255 os) (piecesOf l4 en (Code.body b en) (Pos.mk 8 0 9 8) BB)=some (Flow.next,(SharedT.mk (T5 w.params) 109 life (Array.mk []) (Drawn.mk 0 0 0 0) 320 os),Code.body b en,(Pos.mk 31 0 35 18)):=by rw[PySem.W.Fast.te10110043849684766642,PySem.W.Fast.te14364793385576792824];kernel_rfl
def y3_7(P:Pz):List DictEntry:=y3_6 P++[(dn P "spun_once" 326 (.ref 115)),(dn P "rooted" 333 (.ref 122)),(dn P "ones" 344 (.ref 129)),(dn P "is_word" 352 (.ref 136)),(dn P "is_mark" 360 (.ref 143)),(dn P "is_even" 367 (.ref 150)),(dn P "is_even_mark" 375 (.ref 157)),(dn P "commute" 383 (.ref 164)),(dn P "product" 392 (.ref 171)),(dn P "NOUGHT" 400 (.ref 172)),(dn P "ONE" 406 (.ref 173)),(dn P "MOST_CELLS" 408 (.int 6 407)),(dn P "start" 415 (.ref 179)),(dn P "check_beginning" 423 (.ref 186))]
def j3_7(P:Pz):=ob3 ((dn P "__name__" 165 (.str "spinboard.boards" 393))::y3_7 P) 33
def X6e(P:Pz):List Value:=X6f P++[(.int 36 0),(.int 0 0),(.ref 114),(.int 38 0),(.int 0 0),(.ref 121),(.int 41 0),(.int 0 0),(.ref 128),(.int 48 0),(.int 0 0),(.ref 135),(.int 52 0),(.int 0 0),(.ref 142),(.int 58 0),(.int 0 0),(.ref 149),(.int 60 0),(.int 0 0),(.ref 156),(.int 62 0),(.int 0 0),(.ref 163),(.int 64 0),(.int 0 0),(.ref 170),(.int 71 0),(.int 0 0),(.ref 178),(.int 74 0),(.int 0 0),(.ref 185)]
def X9c(P:Pz):=ob12 (X6e P)
def j111(P:Pz):=Obj.mk (.type "tuple") none (Data.seq #[(.str "one" 323)] 0) #[]
def j113(P:Pz):=(fo1 "spun_once" "spun_once" (top 13) 0 0)
def j114(P:Pz):=(cob "spun_once" 320 "spun_once" 321 322 36 1 0 0 3 109 true 181 110 (.ref 111) (.ref 112) (.ref 113) 324 36 325)
def j115(P:Pz):=(fo2 "spun_once" "spun_once" (top 13) 3 "spinboard.amounts" 280 114 0)
def j118(P:Pz):=Obj.mk (.type "tuple") none (Data.seq #[(.str "one" 330)] 0) #[]
def j120(P:Pz):=(fo1 "rooted" "rooted" (top 14) 0 0)
def j121(P:Pz):=(cob "rooted" 327 "rooted" 328 329 38 1 0 0 3 116 true 181 117 (.ref 118) (.ref 119) (.ref 120) 331 38 332)
def j122(P:Pz):=(fo2 "rooted" "rooted" (top 14) 3 "spinboard.amounts" 280 121 0)
def j125(P:Pz):=Obj.mk (.type "tuple") none (Data.seq #[(.str "number" 339),(.str "many" 340),(.str "rest" 341)] 0) #[]
def j127(P:Pz):=(fo1 "ones" "ones" (top 16) 0 0)
def j128(P:Pz):=(cob "ones" 336 "ones" 337 338 41 1 0 0 3 123 true 181 124 (.ref 125) (.ref 126) (.ref 127) 342 41 343)
def j129(P:Pz):=(fo2 "ones" "ones" (top 16) 3 "spinboard.marks" 334 128 0)
def j132(P:Pz):=Obj.mk (.type "tuple") none (Data.seq #[(.str "thing" 348),(.str "cells" 349)] 0) #[]
def j134(P:Pz):=(fo1 "is_word" "is_word" (top 17) 0 0)
def j135(P:Pz):=(cob "is_word" 345 "is_word" 346 347 48 2 0 0 3 130 true 181 131 (.ref 132) (.ref 133) (.ref 134) 350 48 351)
def j136(P:Pz):=(fo2 "is_word" "is_word" (top 17) 3 "spinboard.marks" 334 135 0)
def j139(P:Pz):=Obj.mk (.type "tuple") none (Data.seq #[(.str "thing" 356),(.str "cells" 357)] 0) #[]
def j141(P:Pz):=(fo1 "is_mark" "is_mark" (top 18) 0 0)
def j142(P:Pz):=(cob "is_mark" 353 "is_mark" 354 355 52 2 0 0 3 137 true 181 138 (.ref 139) (.ref 140) (.ref 141) 358 52 359)
def j143(P:Pz):=(fo2 "is_mark" "is_mark" (top 18) 3 "spinboard.marks" 334 142 0)
def j146(P:Pz):=Obj.mk (.type "tuple") none (Data.seq #[(.str "mark" 364)] 0) #[]
def j148(P:Pz):=(fo1 "is_even" "is_even" (top 19) 0 0)
def j149(P:Pz):=(cob "is_even" 361 "is_even" 362 363 58 1 0 0 3 144 true 181 145 (.ref 146) (.ref 147) (.ref 148) 365 58 366)
def j150(P:Pz):=(fo2 "is_even" "is_even" (top 19) 3 "spinboard.marks" 334 149 0)
def j153(P:Pz):=Obj.mk (.type "tuple") none (Data.seq #[(.str "thing" 371),(.str "cells" 372)] 0) #[]
def j155(P:Pz):=(fo1 "is_even_mark" "is_even_mark" (top 20) 0 0)
def j156(P:Pz):=(cob "is_even_mark" 368 "is_even_mark" 369 370 60 2 0 0 3 151 true 181 152 (.ref 153) (.ref 154) (.ref 155) 373 60 374)
def j157(P:Pz):=(fo2 "is_even_mark" "is_even_mark" (top 20) 3 "spinboard.marks" 334 156 0)
def j160(P:Pz):=Obj.mk (.type "tuple") none (Data.seq #[(.str "one" 379),(.str "other" 380)] 0) #[]
def j162(P:Pz):=(fo1 "commute" "commute" (top 21) 0 0)
def j163(P:Pz):=(cob "commute" 376 "commute" 377 378 62 2 0 0 3 158 true 181 159 (.ref 160) (.ref 161) (.ref 162) 381 62 382)
def j164(P:Pz):=(fo2 "commute" "commute" (top 21) 3 "spinboard.marks" 334 163 0)
def j167(P:Pz):=Obj.mk (.type "tuple") none (Data.seq #[(.str "one" 387),(.str "other" 388),(.str "met" 389)] 0) #[]
def j169(P:Pz):=(fo1 "product" "product" (top 22) 0 0)
def j170(P:Pz):=(cob "product" 384 "product" 385 386 64 2 0 0 3 165 true 181 166 (.ref 167) (.ref 168) (.ref 169) 390 64 391)
def j171(P:Pz):=(fo2 "product" "product" (top 22) 3 "spinboard.marks" 334 170 0)
def j172(P:Pz):=Obj.mk (.type "tuple") none (Data.seq #[(.int 0 395),(.int 0 396),(.int 0 397),(.int 0 398),(.int 0 399)] 0) #[]
def j173(P:Pz):=Obj.mk (.type "tuple") none (Data.seq #[(.int 1 401),(.int 0 402),(.int 0 403),(.int 0 404),(.int 0 405)] 0) #[]
def j174(P:Pz):=Obj.mk (.type "tuple") none (Data.seq #[(.int 0 409)] 0) #[]
def j177(P:Pz):=(fo1 "start" "start" (top 27) 0 0)
def j178(P:Pz):=(cob "start" 410 "start" 411 412 71 2 0 0 3 175 true 181 176 .none .none (.ref 177) 413 71 414)
def j179(P:Pz):=Obj.mk (.type "function") none (Data.func (FuncData.mk "start" "start" (Z1s (top 27)) (FuncBody.stmts (Z1m (top 27))) (Z0i (top 27)) 3 [] (.ref 174) .none .none (.str "spinboard.boards" 393) none (.ref 178) .none 0)) #[]
def j182(P:Pz):=Obj.mk (.type "tuple") none (Data.seq #[(.str "cells" 419),(.str "word" 420)] 0) #[]
def j184(P:Pz):=(fo1 "check_beginning" "check_beginning" (top 28) 0 0)
def j185(P:Pz):=(cob "check_beginning" 416 "check_beginning" 417 418 74 2 0 0 3 180 true 181 181 (.ref 182) (.ref 183) (.ref 184) 421 74 422)
def j186(P:Pz):=(fo2 "check_beginning" "check_beginning" (top 28) 3 "spinboard.boards" 393 185 0)
def T6 (P:Pz):BT:=iF (iL (T5 P) [(3,j3_7 P),(12,X9c P)]) 109 [tz,nf0,j111 P,tz,j113 P,j114 P,j115 P,tz,nf0,j118 P,tz,j120 P,j121 P,j122 P,tz,nf0,j125 P,tz,j127 P,j128 P,j129 P,tz,nf0,j132 P,tz,j134 P,j135 P,j136 P,tz,nf0,j139 P,tz,j141 P,j142 P,j143 P,tz,nf0,j146 P,tz,j148 P,j149 P,j150 P,tz,nf0,j153 P,tz,j155 P,j156 P,j157 P,tz,nf0,j160 P,tz,j162 P,j163 P,j164 P,tz,nf0,j167 P,tz,j169 P,j170 P,j171 P,j172 P,j173 P,j174 P,tz,nf0,j177 P,j178 P,j179 P,tz,nf0,j182 P,tz,j184 P,j185 P,j186 P]
theorem g5 (p:Program)(b:List Stmt)(w:World)(os:OsState):segRunT treeTable p w 11 (some (.ref 6)) 1 385 (SharedT.mk (T5 w.params) 109 life (Array.mk []) (Drawn.mk 0 0 0 0) 320 os) (piecesOf l5 en (Code.body b en) (Pos.mk 31 0 35 18) BB)=some (Flow.next,(SharedT.mk (T6 w.params) 187 life (Array.mk []) (Drawn.mk 0 0 0 0) 424 os),Code.body b en,(Pos.mk 74 0 78 62)):=by rw[PySem.W.Fast.te10110043849684766642,PySem.W.Fast.te14364793385576792824];kernel_rfl
def y3_8(P:Pz):List DictEntry:=y3_7 P++[(dn P "cells_of" 430 (.ref 193)),(dn P "solved" 443 (.ref 200)),(dn P "cleared" 453 (.ref 207)),(dn P "places_at_one" 459 (.ref 212)),(dn P "solution" 469 (.ref 219)),(dn P "PRODUCT_OF_NONE" 475 (.ref 220)),(dn P "FIRST_SIGN_LEAD" 477 (.int 6 476)),(dn P "is_table" 483 (.ref 225)),(dn P "commutes_with_all" 489 (.ref 230)),(dn P "check_table" 497 (.ref 237)),(dn P "reduced" 503 (.ref 242)),(dn P "without_lead" 511 (.ref 249)),(dn P "lead" 518 (.ref 256)),(dn P "least_cell" 525 (.ref 263))]
def j3_8(P:Pz):=ob3 ((dn P "__name__" 165 (.str "spinboard.tables" 470))::y3_8 P) 47
def X6d(P:Pz):List Value:=X6e P++[(.int 79 0),(.int 0 0),(.ref 192),(.int 82 0),(.int 0 0),(.ref 199),(.int 91 0),(.int 0 0),(.ref 206),(.int 97 0),(.int 0 0),(.ref 211),(.int 99 0),(.int 0 0),(.ref 218),(.int 109 0),(.int 0 0),(.ref 224),(.int 117 0),(.int 0 0),(.ref 229),(.int 119 0),(.int 0 0),(.ref 236),(.int 122 0),(.int 0 0),(.ref 241),(.int 131 0),(.int 0 0),(.ref 248),(.int 133 0),(.int 0 0),(.ref 255),(.int 137 0),(.int 0 0),(.ref 262)]
def X9b(P:Pz):=ob12 (X6d P)
def j189(P:Pz):=Obj.mk (.type "tuple") none (Data.seq #[(.str "board" 427)] 0) #[]
def j191(P:Pz):=(fo1 "cells_of" "cells_of" (top 29) 0 0)
def j192(P:Pz):=(cob "cells_of" 424 "cells_of" 425 426 79 1 0 0 3 187 true 181 188 (.ref 189) (.ref 190) (.ref 191) 428 79 429)
def j193(P:Pz):=(fo2 "cells_of" "cells_of" (top 29) 3 "spinboard.boards" 393 192 0)
def j196(P:Pz):=Obj.mk (.type "tuple") none (Data.seq #[(.str "equations" 436),(.str "kept" 437),(.str "place" 438),(.str "equation" 439),(.str "left" 440)] 0) #[]
def j198(P:Pz):=(fo1 "solved" "solved" (top 31) 0 0)
def j199(P:Pz):=(cob "solved" 433 "solved" 434 435 82 1 0 0 3 194 true 181 195 (.ref 196) (.ref 197) (.ref 198) 441 82 442)
def j200(P:Pz):=(fo2 "solved" "solved" (top 31) 3 "spinboard.bits" 431 199 0)
def j203(P:Pz):=Obj.mk (.type "tuple") none (Data.seq #[(.str "equation" 447),(.str "kept" 448),(.str "left" 449),(.str "other" 450)] 0) #[]
def j205(P:Pz):=(fo1 "cleared" "cleared" (top 32) 0 0)
def j206(P:Pz):=(cob "cleared" 444 "cleared" 445 446 91 2 0 0 3 201 true 181 202 (.ref 203) (.ref 204) (.ref 205) 451 91 452)
def j207(P:Pz):=(fo2 "cleared" "cleared" (top 32) 3 "spinboard.bits" 431 206 0)
def j210(P:Pz):=(fo1 "places_at_one" "places_at_one" (top 33) 0 0)
def j211(P:Pz):=(cob "places_at_one" 454 "places_at_one" 455 456 97 1 0 0 3 208 true 181 209 .none .none (.ref 210) 457 97 458)
def j212(P:Pz):=(fo2 "places_at_one" "places_at_one" (top 33) 3 "spinboard.bits" 431 211 0)
def j215(P:Pz):=Obj.mk (.type "tuple") none (Data.seq #[(.str "kept" 463),(.str "x" 464),(.str "height" 465),(.str "equation" 466)] 0) #[]
def j217(P:Pz):=(fo1 "solution" "solution" (top 34) 0 0)
def j218(P:Pz):=(cob "solution" 460 "solution" 461 462 99 1 0 0 3 213 true 181 214 (.ref 215) (.ref 216) (.ref 217) 467 99 468)
def j219(P:Pz):=(fo2 "solution" "solution" (top 34) 3 "spinboard.bits" 431 218 0)
def j220(P:Pz):=Obj.mk (.type "tuple") none (Data.seq #[(.int 0 472),(.int 0 473),(.int 0 474)] 0) #[]
def j223(P:Pz):=(fo1 "is_table" "is_table" (top 38) 0 0)
def j224(P:Pz):=(cob "is_table" 478 "is_table" 479 480 109 2 0 0 3 221 true 181 222 .none .none (.ref 223) 481 109 482)
def j225(P:Pz):=(fo2 "is_table" "is_table" (top 38) 3 "spinboard.tables" 470 224 0)
def j228(P:Pz):=(fo1 "commutes_with_all" "commutes_with_all" (top 39) 0 0)
def j229(P:Pz):=(cob "commutes_with_all" 484 "commutes_with_all" 485 486 117 2 0 0 3 226 true 181 227 .none .none (.ref 228) 487 117 488)
def j230(P:Pz):=(fo2 "commutes_with_all" "commutes_with_all" (top 39) 3 "spinboard.tables" 470 229 0)
def j233(P:Pz):=Obj.mk (.type "tuple") none (Data.seq #[(.str "rows" 493),(.str "cells" 494)] 0) #[]
def j235(P:Pz):=(fo1 "check_table" "check_table" (top 40) 0 0)
def j236(P:Pz):=(cob "check_table" 490 "check_table" 491 492 119 2 0 0 3 231 true 181 232 (.ref 233) (.ref 234) (.ref 235) 495 119 496)
def j237(P:Pz):=(fo2 "check_table" "check_table" (top 40) 3 "spinboard.tables" 470 236 0)
def j240(P:Pz):=(fo1 "reduced" "reduced" (top 41) 0 0)
def j241(P:Pz):=(cob "reduced" 498 "reduced" 499 500 122 2 0 0 3 238 true 181 239 .none .none (.ref 240) 501 122 502)
def j242(P:Pz):=(fo2 "reduced" "reduced" (top 41) 3 "spinboard.tables" 470 241 0)
def j245(P:Pz):=Obj.mk (.type "tuple") none (Data.seq #[(.str "mark" 507),(.str "row" 508)] 0) #[]
def j247(P:Pz):=(fo1 "without_lead" "without_lead" (top 42) 0 0)
def j248(P:Pz):=(cob "without_lead" 504 "without_lead" 505 506 131 2 0 0 3 243 true 181 244 (.ref 245) (.ref 246) (.ref 247) 509 131 510)
def j249(P:Pz):=(fo2 "without_lead" "without_lead" (top 42) 3 "spinboard.tables" 470 248 0)
def j252(P:Pz):=Obj.mk (.type "tuple") none (Data.seq #[(.str "mark" 515)] 0) #[]
def j254(P:Pz):=(fo1 "lead" "lead" (top 43) 0 0)
def j255(P:Pz):=(cob "lead" 512 "lead" 513 514 133 1 0 0 3 250 true 181 251 (.ref 252) (.ref 253) (.ref 254) 516 133 517)
def j256(P:Pz):=(fo2 "lead" "lead" (top 43) 3 "spinboard.tables" 470 255 0)
def j259(P:Pz):=Obj.mk (.type "tuple") none (Data.seq #[(.str "word" 522)] 0) #[]
def j261(P:Pz):=(fo1 "least_cell" "least_cell" (top 44) 0 0)
def j262(P:Pz):=(cob "least_cell" 519 "least_cell" 520 521 137 1 0 0 3 257 true 181 258 (.ref 259) (.ref 260) (.ref 261) 523 137 524)
def j263(P:Pz):=(fo2 "least_cell" "least_cell" (top 44) 3 "spinboard.tables" 470 262 0)
def T7 (P:Pz):BT:=iF (iL (T6 P) [(3,j3_8 P),(12,X9b P)]) 187 [tz,nf0,j189 P,tz,j191 P,j192 P,j193 P,tz,nf0,j196 P,tz,j198 P,j199 P,j200 P,tz,nf0,j203 P,tz,j205 P,j206 P,j207 P,tz,nf0,j210 P,j211 P,j212 P,tz,nf0,j215 P,tz,j217 P,j218 P,j219 P,j220 P,tz,nf0,j223 P,j224 P,j225 P,tz,nf0,j228 P,j229 P,j230 P,tz,nf0,j233 P,tz,j235 P,j236 P,j237 P,tz,nf0,j240 P,j241 P,j242 P,tz,nf0,j245 P,tz,j247 P,j248 P,j249 P,tz,nf0,j252 P,tz,j254 P,j255 P,j256 P,tz,nf0,j259 P,tz,j261 P,j262 P,j263 P]
theorem g6 (p:Program)(b:List Stmt)(w:World)(os:OsState):segRunT treeTable p w 11 (some (.ref 6)) 1 389 (SharedT.mk (T6 w.params) 187 life (Array.mk []) (Drawn.mk 0 0 0 0) 424 os) (piecesOf l6 en (Code.body b en) (Pos.mk 74 0 78 62) BB)=some (Flow.next,(SharedT.mk (T7 w.params) 264 life (Array.mk []) (Drawn.mk 0 0 0 0) 526 os),Code.body b en,(Pos.mk 137 0 138 42)):=by rw[PySem.W.Fast.te10110043849684766642,PySem.W.Fast.te14364793385576792824];kernel_rfl
def y3_9(P:Pz):List DictEntry:=y3_8 P++[(dn P "has_at_lead" 533 (.ref 270)),(dn P "made_of" 539 (.ref 275)),(dn P "rows_with" 545 (.ref 280)),(dn P "product_of" 554 (.ref 287)),(dn P "apart_by" 560 (.ref 292)),(dn P "keepers" 573 (.ref 299)),(dn P "keepers_with" 579 (.ref 304)),(dn P "spins_on" 585 (.ref 309)),(dn P "has_spins" 595 (.ref 316)),(dn P "NUMBERS_BEHIND" 619 (.ref 317))]
def j3_9(P:Pz):=ob3 ((dn P "__name__" 165 (.str "spinboard.moves" 596))::y3_9 P) 57
def X6c(P:Pz):List Value:=X6d P++[(.int 139 0),(.int 0 0),(.ref 269),(.int 143 0),(.int 0 0),(.ref 274),(.int 152 0),(.int 0 0),(.ref 279),(.int 154 0),(.int 0 0),(.ref 286),(.int 159 0),(.int 0 0),(.ref 291),(.int 164 0),(.int 0 0),(.ref 298),(.int 172 0),(.int 0 0),(.ref 303),(.int 179 0),(.int 0 0),(.ref 308),(.int 188 0),(.int 0 0),(.ref 315)]
def X9a(P:Pz):=ob12 (X6c P)
def j266(P:Pz):=Obj.mk (.type "tuple") none (Data.seq #[(.str "mark" 529),(.str "place" 530)] 0) #[]
def j268(P:Pz):=(fo1 "has_at_lead" "has_at_lead" (top 45) 0 0)
def j269(P:Pz):=(cob "has_at_lead" 526 "has_at_lead" 527 528 139 2 0 0 3 264 true 181 265 (.ref 266) (.ref 267) (.ref 268) 531 139 532)
def j270(P:Pz):=(fo2 "has_at_lead" "has_at_lead" (top 45) 3 "spinboard.tables" 470 269 0)
def j273(P:Pz):=(fo1 "made_of" "made_of" (top 46) 0 0)
def j274(P:Pz):=(cob "made_of" 534 "made_of" 535 536 143 3 0 0 3 271 true 181 272 .none .none (.ref 273) 537 143 538)
def j275(P:Pz):=(fo2 "made_of" "made_of" (top 46) 3 "spinboard.tables" 470 274 0)
def j278(P:Pz):=(fo1 "rows_with" "rows_with" (top 47) 0 0)
def j279(P:Pz):=(cob "rows_with" 540 "rows_with" 541 542 152 3 0 0 3 276 true 181 277 .none .none (.ref 278) 543 152 544)
def j280(P:Pz):=(fo2 "rows_with" "rows_with" (top 47) 3 "spinboard.tables" 470 279 0)
def j283(P:Pz):=Obj.mk (.type "tuple") none (Data.seq #[(.str "marks" 549),(.str "made" 550),(.str "mark" 551)] 0) #[]
def j285(P:Pz):=(fo1 "product_of" "product_of" (top 48) 0 0)
def j286(P:Pz):=(cob "product_of" 546 "product_of" 547 548 154 1 0 0 3 281 true 181 282 (.ref 283) (.ref 284) (.ref 285) 552 154 553)
def j287(P:Pz):=(fo2 "product_of" "product_of" (top 48) 3 "spinboard.tables" 470 286 0)
def j290(P:Pz):=(fo1 "apart_by" "apart_by" (top 49) 0 0)
def j291(P:Pz):=(cob "apart_by" 555 "apart_by" 556 557 159 2 0 0 3 288 true 181 289 .none .none (.ref 290) 558 159 559)
def j292(P:Pz):=(fo2 "apart_by" "apart_by" (top 49) 3 "spinboard.tables" 470 291 0)
def j295(P:Pz):=Obj.mk (.type "tuple") none (Data.seq #[(.str "board" 566),(.str "cells" 567),(.str "rows" 568),(.str "flips" 569),(.str "mark" 570)] 0) #[]
def j297(P:Pz):=(fo1 "keepers" "keepers" (top 51) 0 0)
def j298(P:Pz):=(cob "keepers" 563 "keepers" 564 565 164 1 0 0 3 293 true 181 294 (.ref 295) (.ref 296) (.ref 297) 571 164 572)
def j299(P:Pz):=(fo2 "keepers" "keepers" (top 51) 3 "spinboard.spreads" 561 298 0)
def j302(P:Pz):=(fo1 "keepers_with" "keepers_with" (top 52) 0 0)
def j303(P:Pz):=(cob "keepers_with" 574 "keepers_with" 575 576 172 2 0 0 3 300 true 181 301 .none .none (.ref 302) 577 172 578)
def j304(P:Pz):=(fo2 "keepers_with" "keepers_with" (top 52) 3 "spinboard.spreads" 561 303 0)
def j307(P:Pz):=(fo1 "spins_on" "spins_on" (top 53) 0 0)
def j308(P:Pz):=(cob "spins_on" 580 "spins_on" 581 582 179 2 0 0 3 305 true 181 306 .none .none (.ref 307) 583 179 584)
def j309(P:Pz):=(fo2 "spins_on" "spins_on" (top 53) 3 "spinboard.spreads" 561 308 0)
def j312(P:Pz):=Obj.mk (.type "tuple") none (Data.seq #[(.str "mark" 589),(.str "spins" 590),(.str "word" 591),(.str "k" 592)] 0) #[]
def j314(P:Pz):=(fo1 "has_spins" "has_spins" (top 54) 0 0)
def j315(P:Pz):=(cob "has_spins" 586 "has_spins" 587 588 188 2 0 0 3 310 true 181 311 (.ref 312) (.ref 313) (.ref 314) 593 188 594)
def j316(P:Pz):=(fo2 "has_spins" "has_spins" (top 54) 3 "spinboard.spreads" 561 315 0)
def j317(P:Pz):=ob3 [(dn P "flip" 598 (.int 1 599)),(dn P "mix" 600 (.int 1 601)),(dn P "turn" 602 (.int 2 603)),(dn P "if" 604 (.int 2 605)),(dn P "pair" 606 (.int 2 607)),(dn P "swap" 608 (.int 2 609)),(dn P "cross" 610 (.int 3 611))] 7
def T8 (P:Pz):BT:=iF (iL (T7 P) [(3,j3_9 P),(12,X9a P)]) 264 [tz,nf0,j266 P,tz,j268 P,j269 P,j270 P,tz,nf0,j273 P,j274 P,j275 P,tz,nf0,j278 P,j279 P,j280 P,tz,nf0,j283 P,tz,j285 P,j286 P,j287 P,tz,nf0,j290 P,j291 P,j292 P,tz,nf0,j295 P,tz,j297 P,j298 P,j299 P,tz,nf0,j302 P,j303 P,j304 P,tz,nf0,j307 P,j308 P,j309 P,tz,nf0,j312 P,tz,j314 P,j315 P,j316 P,j317 P]
theorem g7 (p:Program)(b:List Stmt)(w:World)(os:OsState):segRunT treeTable p w 11 (some (.ref 6)) 1 390 (SharedT.mk (T7 w.params) 264 life (Array.mk []) (Drawn.mk 0 0 0 0) 526 os) (piecesOf l7 en (Code.body b en) (Pos.mk 137 0 138 42) BB)=some (Flow.next,(SharedT.mk (T8 w.params) 318 life (Array.mk []) (Drawn.mk 0 0 0 0) 620 os),Code.body b en,(Pos.mk 194 0 194 14)) :=
 (byRow2 "special-get-raises" (P:=fun w=>(fun w:World=>segRunT treeTable p w 11 (some (.ref 6)) 1 390 (SharedT.mk (T7 w.params) 264 life (Array.mk []) (Drawn.mk 0 0 0 0) 526 os) (piecesOf l7 en (Code.body b en) (Pos.mk 137 0 138 42) BB)=some (Flow.next,(SharedT.mk (T8 w.params) 318 life (Array.mk []) (Drawn.mk 0 0 0 0) 620 os),Code.body b en,(Pos.mk 194 0 194 14))) w) (fun w=>by show (fun w:World=>segRunT treeTable p w 11 (some (.ref 6)) 1 390 (SharedT.mk (T7 w.params) 264 life (Array.mk []) (Drawn.mk 0 0 0 0) 526 os) (piecesOf l7 en (Code.body b en) (Pos.mk 137 0 138 42) BB)=some (Flow.next,(SharedT.mk (T8 w.params) 318 life (Array.mk []) (Drawn.mk 0 0 0 0) 620 os),Code.body b en,(Pos.mk 194 0 194 14))) (World.withFollow w "special-get-raises" false);rw[PySem.W.Fast.te10110043849684766642,PySem.W.Fast.te14364793385576792824];kernel_rfl) (fun w=>by show (fun w:World=>segRunT treeTable p w 11 (some (.ref 6)) 1 390 (SharedT.mk (T7 w.params) 264 life (Array.mk []) (Drawn.mk 0 0 0 0) 526 os) (piecesOf l7 en (Code.body b en) (Pos.mk 137 0 138 42) BB)=some (Flow.next,(SharedT.mk (T8 w.params) 318 life (Array.mk []) (Drawn.mk 0 0 0 0) 620 os),Code.body b en,(Pos.mk 194 0 194 14))) (World.withFollow w "special-get-raises" true);rw[PySem.W.Fast.te10110043849684766642,PySem.W.Fast.te14364793385576792824];kernel_rfl)) w
def X6b(P:Pz):List DictEntry:=y3_9 P++[(dn P "check_move" 625 (.ref 322)),(dn P "has_move_form" 631 (.ref 327)),(dn P "named_cells" 638 (.ref 334)),(dn P "turned" 644 (.ref 339)),(dn P "mixed" 650 (.ref 344)),(dn P "mixed_at" 659 (.ref 351)),(dn P "spun_where" 665 (.ref 356)),(dn P "word_behind" 671 (.ref 361)),(dn P "exchanged" 681 (.ref 368)),(dn P "run" 693 (.ref 375)),(dn P "_law_cell_at" 703 (.ref 382)),(dn P "_law_whole" 710 (.ref 389)),(dn P "_law_cells_by" 717 (.ref 396))]
def X8v(P:Pz):=ob3 ((dn P "__name__" 165 (.str "law_spinboard_k62_whole_all_keepers" 694))::X6b P) 70
def X1x(P:Pz):List Value:=X6c P++[(.int 195 0),(.int 0 0),(.ref 321),(.int 204 0),(.int 0 0),(.ref 326),(.int 214 0),(.int 0 0),(.ref 333),(.int 216 0),(.int 0 0),(.ref 338),(.int 225 0),(.int 0 0),(.ref 343),(.int 227 0),(.int 0 0),(.ref 350),(.int 231 0),(.int 0 0),(.ref 355),(.int 233 0),(.int 0 0),(.ref 360),(.int 244 0),(.int 0 0),(.ref 367),(.int 248 0),(.int 0 0),(.ref 374),(.int 254 0),(.int 0 0),(.ref 381),(.int 258 0),(.int 0 0),(.ref 388),(.int 260 0),(.int 0 0),(.ref 395)]
def X7o(P:Pz):=ob12 (X1x P)
def j320(P:Pz):=(fo1 "check_move" "check_move" (top 57) 0 0)
def j321(P:Pz):=(cob "check_move" 620 "check_move" 621 622 195 2 0 0 3 318 true 181 319 .none .none (.ref 320) 623 195 624)
def j322(P:Pz):=(fo2 "check_move" "check_move" (top 57) 3 "spinboard.moves" 596 321 0)
def j325(P:Pz):=(fo1 "has_move_form" "has_move_form" (top 58) 0 0)
def j326(P:Pz):=(cob "has_move_form" 626 "has_move_form" 627 628 204 1 0 0 3 323 true 181 324 .none .none (.ref 325) 629 204 630)
def j327(P:Pz):=(fo2 "has_move_form" "has_move_form" (top 58) 3 "spinboard.moves" 596 326 0)
def j330(P:Pz):=Obj.mk (.type "tuple") none (Data.seq #[(.str "move" 635)] 0) #[]
def j332(P:Pz):=(fo1 "named_cells" "named_cells" (top 59) 0 0)
def j333(P:Pz):=(cob "named_cells" 632 "named_cells" 633 634 214 1 0 0 3 328 true 181 329 (.ref 330) (.ref 331) (.ref 332) 636 214 637)
def j334(P:Pz):=(fo2 "named_cells" "named_cells" (top 59) 3 "spinboard.moves" 596 333 0)
def j337(P:Pz):=(fo1 "turned" "turned" (top 60) 0 0)
def j338(P:Pz):=(cob "turned" 639 "turned" 640 641 216 2 0 0 3 335 true 181 336 .none .none (.ref 337) 642 216 643)
def j339(P:Pz):=(fo2 "turned" "turned" (top 60) 3 "spinboard.moves" 596 338 0)
def j342(P:Pz):=(fo1 "mixed" "mixed" (top 61) 0 0)
def j343(P:Pz):=(cob "mixed" 645 "mixed" 646 647 225 2 0 0 3 340 true 181 341 .none .none (.ref 342) 648 225 649)
def j344(P:Pz):=(fo2 "mixed" "mixed" (top 61) 3 "spinboard.moves" 596 343 0)
def j347(P:Pz):=Obj.mk (.type "tuple") none (Data.seq #[(.str "board" 654),(.str "word" 655),(.str "bit" 656)] 0) #[]
def j349(P:Pz):=(fo1 "mixed_at" "mixed_at" (top 62) 0 0)
def j350(P:Pz):=(cob "mixed_at" 651 "mixed_at" 652 653 227 3 0 0 3 345 true 181 346 (.ref 347) (.ref 348) (.ref 349) 657 227 658)
def j351(P:Pz):=(fo2 "mixed_at" "mixed_at" (top 62) 3 "spinboard.moves" 596 350 0)
def j354(P:Pz):=(fo1 "spun_where" "spun_where" (top 63) 0 0)
def j355(P:Pz):=(cob "spun_where" 660 "spun_where" 661 662 231 3 0 0 3 352 true 181 353 .none .none (.ref 354) 663 231 664)
def j356(P:Pz):=(fo2 "spun_where" "spun_where" (top 63) 3 "spinboard.moves" 596 355 0)
def j359(P:Pz):=(fo1 "word_behind" "word_behind" (top 64) 0 0)
def j360(P:Pz):=(cob "word_behind" 666 "word_behind" 667 668 233 2 0 0 3 357 true 181 358 .none .none (.ref 359) 669 233 670)
def j361(P:Pz):=(fo2 "word_behind" "word_behind" (top 64) 3 "spinboard.moves" 596 360 0)
def j364(P:Pz):=Obj.mk (.type "tuple") none (Data.seq #[(.str "word" 675),(.str "bit" 676),(.str "other" 677),(.str "both" 678)] 0) #[]
def j366(P:Pz):=(fo1 "exchanged" "exchanged" (top 65) 0 0)
def j367(P:Pz):=(cob "exchanged" 672 "exchanged" 673 674 244 3 0 0 3 362 true 181 363 (.ref 364) (.ref 365) (.ref 366) 679 244 680)
def j368(P:Pz):=(fo2 "exchanged" "exchanged" (top 65) 3 "spinboard.moves" 596 367 0)
def j371(P:Pz):=Obj.mk (.type "tuple") none (Data.seq #[(.str "board" 687),(.str "row" 688),(.str "behind" 689),(.str "move" 690)] 0) #[]
def j373(P:Pz):=(fo1 "run" "run" (top 67) 0 0)
def j374(P:Pz):=(cob "run" 684 "run" 685 686 248 2 0 0 3 369 true 181 370 (.ref 371) (.ref 372) (.ref 373) 691 248 692)
def j375(P:Pz):=(fo2 "run" "run" (top 67) 3 "spinboard.rows" 682 374 0)
def j378(P:Pz):=Obj.mk (.type "tuple") none (Data.seq #[(.str "_law_script" 699),(.str "_law_k" 700)] 0) #[]
def j380(P:Pz):=(fo1 "_law_cell_at" "_law_cell_at" (top 69) 0 0)
def j381(P:Pz):=(cob "_law_cell_at" 696 "_law_cell_at" 697 698 254 2 0 0 3 376 true 181 377 (.ref 378) (.ref 379) (.ref 380) 701 254 702)
def j382(P:Pz):=(fo2 "_law_cell_at" "_law_cell_at" (top 69) 3 "law_spinboard_k62_whole_all_keepers" 694 381 0)
def j385(P:Pz):=Obj.mk (.type "tuple") none (Data.seq #[(.str "_law_found" 707)] 0) #[]
def j387(P:Pz):=(fo1 "_law_whole" "_law_whole" (top 70) 0 0)
def j388(P:Pz):=(cob "_law_whole" 704 "_law_whole" 705 706 258 1 0 0 3 383 true 181 384 (.ref 385) (.ref 386) (.ref 387) 708 258 709)
def j389(P:Pz):=(fo2 "_law_whole" "_law_whole" (top 70) 3 "law_spinboard_k62_whole_all_keepers" 694 388 0)
def j392(P:Pz):=Obj.mk (.type "tuple") none (Data.seq #[(.str "_law_cell" 714)] 0) #[]
def j394(P:Pz):=(fo1 "_law_cells_by" "_law_cells_by" (top 71) 0 0)
def j395(P:Pz):=(cob "_law_cells_by" 711 "_law_cells_by" 712 713 260 1 0 0 3 390 true 181 391 (.ref 392) (.ref 393) (.ref 394) 715 260 716)
def j396(P:Pz):=(fo2 "_law_cells_by" "_law_cells_by" (top 71) 3 "law_spinboard_k62_whole_all_keepers" 694 395 0)
def T9 (P:Pz):BT:=iF (iL (T8 P) [(3,X8v P),(12,X7o P)]) 318 [tz,nf0,j320 P,j321 P,j322 P,tz,nf0,j325 P,j326 P,j327 P,tz,nf0,j330 P,tz,j332 P,j333 P,j334 P,tz,nf0,j337 P,j338 P,j339 P,tz,nf0,j342 P,j343 P,j344 P,tz,nf0,j347 P,tz,j349 P,j350 P,j351 P,tz,nf0,j354 P,j355 P,j356 P,tz,nf0,j359 P,j360 P,j361 P,tz,nf0,j364 P,tz,j366 P,j367 P,j368 P,tz,nf0,j371 P,tz,j373 P,j374 P,j375 P,tz,nf0,j378 P,tz,j380 P,j381 P,j382 P,tz,nf0,j385 P,tz,j387 P,j388 P,j389 P,tz,nf0,j392 P,tz,j394 P,j395 P,j396 P]
theorem g8 (p:Program)(b:List Stmt)(w:World)(os:OsState):segRunT treeTable p w 11 (some (.ref 6)) 1 387 (SharedT.mk (T8 w.params) 318 life (Array.mk []) (Drawn.mk 0 0 0 0) 620 os) (piecesOf l8 en (Code.body b en) (Pos.mk 194 0 194 14) BB)=some (Flow.next,(SharedT.mk (T9 w.params) 397 life (Array.mk []) (Drawn.mk 0 0 0 0) 718 os),Code.body b en,(Pos.mk 260 0 263 28)):=by rw[PySem.W.Fast.te10110043849684766642,PySem.W.Fast.te14364793385576792824];kernel_rfl
def X6a(P:Pz):List DictEntry:=X6b P++[(dn P "_law_low" 723 (.ref 401)),(dn P "_law_spin" 737 (.ref 408)),(dn P "_law_amount_by" 749 (.ref 415)),(dn P "_law_board_by" 755 (.ref 420)),(dn P "_law_mark_by" 765 (.ref 427)),(dn P "_law_bits" 773 (.ref 434)),(dn P "_law_times" 786 (.ref 441)),(dn P "_law_move_by" 792 (.ref 446)),(dn P "_law_plain_row" 803 (.ref 453)),(dn P "_law_held_board" 809 (.ref 458)),(dn P "_law_keeps" 821 (.ref 465)),(dn P "_law_lead" 829 (.ref 472)),(dn P "_law_is_mark" 835 (.ref 477))]
def X8u(P:Pz):=ob3 ((dn P "__name__" 165 (.str "law_spinboard_k62_whole_all_keepers" 694))::X6a P) 83
def X1w(P:Pz):List Value:=X1x P++[(.int 264 0),(.int 0 0),(.ref 400),(.int 269 0),(.int 0 0),(.ref 407),(.int 274 0),(.int 0 0),(.ref 414),(.int 294 0),(.int 0 0),(.ref 419),(.int 301 0),(.int 0 0),(.ref 426),(.int 305 0),(.int 0 0),(.ref 433),(.int 311 0),(.int 0 0),(.ref 440),(.int 319 0),(.int 0 0),(.ref 445),(.int 335 0),(.int 0 0),(.ref 452),(.int 345 0),(.int 0 0),(.ref 457),(.int 373 0),(.int 0 0),(.ref 464),(.int 379 0),(.int 0 0),(.ref 471),(.int 384 0),(.int 0 0),(.ref 476)]
def X7n(P:Pz):=ob12 (X1w P)
def j399(P:Pz):=(fo1 "_law_low" "_law_low" (top 72) 0 0)
def j400(P:Pz):=(cob "_law_low" 718 "_law_low" 719 720 264 2 0 0 3 397 true 181 398 .none .none (.ref 399) 721 264 722)
def j401(P:Pz):=(fo2 "_law_low" "_law_low" (top 72) 3 "law_spinboard_k62_whole_all_keepers" 694 400 0)
def j404(P:Pz):=Obj.mk (.type "tuple") none (Data.seq #[(.str "_law_one" 727),(.str "_law_k" 728),(.str "_law_a" 729),(.str "_law_b" 730),(.str "_law_c" 731),(.str "_law_d" 732),(.str "_law_h" 733),(.str "_law_j" 734)] 0) #[]
def j406(P:Pz):=(fo1 "_law_spin" "_law_spin" (top 73) 0 0)
def j407(P:Pz):=(cob "_law_spin" 724 "_law_spin" 725 726 269 2 0 0 3 402 true 181 403 (.ref 404) (.ref 405) (.ref 406) 735 269 736)
def j408(P:Pz):=(fo2 "_law_spin" "_law_spin" (top 73) 3 "law_spinboard_k62_whole_all_keepers" 694 407 0)
def j411(P:Pz):=Obj.mk (.type "tuple") none (Data.seq #[(.str "_law_cell" 741),(.str "_law_far" 742),(.str "_law_size" 743),(.str "_law_parts" 744),(.str "_law_k" 745),(.str "_law_half" 746)] 0) #[]
def j413(P:Pz):=(fo1 "_law_amount_by" "_law_amount_by" (top 74) 0 0)
def j414(P:Pz):=(cob "_law_amount_by" 738 "_law_amount_by" 739 740 274 1 0 0 3 409 true 181 410 (.ref 411) (.ref 412) (.ref 413) 747 274 748)
def j415(P:Pz):=(fo2 "_law_amount_by" "_law_amount_by" (top 74) 3 "law_spinboard_k62_whole_all_keepers" 694 414 0)
def j418(P:Pz):=(fo1 "_law_board_by" "_law_board_by" (top 75) 0 0)
def j419(P:Pz):=(cob "_law_board_by" 750 "_law_board_by" 751 752 294 3 0 0 3 416 true 181 417 .none .none (.ref 418) 753 294 754)
def j420(P:Pz):=(fo2 "_law_board_by" "_law_board_by" (top 75) 3 "law_spinboard_k62_whole_all_keepers" 694 419 0)
def j423(P:Pz):=Obj.mk (.type "tuple") none (Data.seq #[(.str "_law_cell" 759),(.str "_law_cells" 760),(.str "_law_mixed_up" 761),(.str "_law_size" 762)] 0) #[]
def j425(P:Pz):=(fo1 "_law_mark_by" "_law_mark_by" (top 76) 0 0)
def j426(P:Pz):=(cob "_law_mark_by" 756 "_law_mark_by" 757 758 301 2 0 0 3 421 true 181 422 (.ref 423) (.ref 424) (.ref 425) 763 301 764)
def j427(P:Pz):=(fo2 "_law_mark_by" "_law_mark_by" (top 76) 3 "law_spinboard_k62_whole_all_keepers" 694 426 0)
def j430(P:Pz):=Obj.mk (.type "tuple") none (Data.seq #[(.str "_law_number" 769),(.str "_law_many" 770)] 0) #[]
def j432(P:Pz):=(fo1 "_law_bits" "_law_bits" (top 77) 0 0)
def j433(P:Pz):=(cob "_law_bits" 766 "_law_bits" 767 768 305 1 0 0 3 428 true 181 429 (.ref 430) (.ref 431) (.ref 432) 771 305 772)
def j434(P:Pz):=(fo2 "_law_bits" "_law_bits" (top 77) 3 "law_spinboard_k62_whole_all_keepers" 694 433 0)
def j437(P:Pz):=Obj.mk (.type "tuple") none (Data.seq #[(.str "_law_one" 777),(.str "_law_other" 778),(.str "_law_parts" 779),(.str "_law_j" 780),(.str "_law_k" 781),(.str "_law_at" 782),(.str "_law_sign" 783)] 0) #[]
def j439(P:Pz):=(fo1 "_law_times" "_law_times" (top 78) 0 0)
def j440(P:Pz):=(cob "_law_times" 774 "_law_times" 775 776 311 2 0 0 3 435 true 181 436 (.ref 437) (.ref 438) (.ref 439) 784 311 785)
def j441(P:Pz):=(fo2 "_law_times" "_law_times" (top 78) 3 "law_spinboard_k62_whole_all_keepers" 694 440 0)
def j444(P:Pz):=(fo1 "_law_move_by" "_law_move_by" (top 79) 0 0)
def j445(P:Pz):=(cob "_law_move_by" 787 "_law_move_by" 788 789 319 2 0 0 3 442 true 181 443 .none .none (.ref 444) 790 319 791)
def j446(P:Pz):=(fo2 "_law_move_by" "_law_move_by" (top 79) 3 "law_spinboard_k62_whole_all_keepers" 694 445 0)
def j449(P:Pz):=Obj.mk (.type "tuple") none (Data.seq #[(.str "_law_numbers" 796),(.str "_law_cells" 797),(.str "_law_row" 798),(.str "_law_number" 799),(.str "_law_move" 800)] 0) #[]
def j451(P:Pz):=(fo1 "_law_plain_row" "_law_plain_row" (top 80) 0 0)
def j452(P:Pz):=(cob "_law_plain_row" 793 "_law_plain_row" 794 795 335 2 0 0 3 447 true 181 448 (.ref 449) (.ref 450) (.ref 451) 801 335 802)
def j453(P:Pz):=(fo2 "_law_plain_row" "_law_plain_row" (top 80) 3 "law_spinboard_k62_whole_all_keepers" 694 452 0)
def j456(P:Pz):=(fo1 "_law_held_board" "_law_held_board" (top 81) 0 0)
def j457(P:Pz):=(cob "_law_held_board" 804 "_law_held_board" 805 806 345 4 0 0 3 454 true 181 455 .none .none (.ref 456) 807 345 808)
def j458(P:Pz):=(fo2 "_law_held_board" "_law_held_board" (top 81) 3 "law_spinboard_k62_whole_all_keepers" 694 457 0)
def j461(P:Pz):=Obj.mk (.type "tuple") none (Data.seq #[(.str "_law_board" 813),(.str "_law_mark" 814),(.str "_law_q" 815),(.str "_law_f" 816),(.str "_law_s" 817),(.str "_law_word" 818)] 0) #[]
def j463(P:Pz):=(fo1 "_law_keeps" "_law_keeps" (top 82) 0 0)
def j464(P:Pz):=(cob "_law_keeps" 810 "_law_keeps" 811 812 373 2 0 0 3 459 true 181 460 (.ref 461) (.ref 462) (.ref 463) 819 373 820)
def j465(P:Pz):=(fo2 "_law_keeps" "_law_keeps" (top 82) 3 "law_spinboard_k62_whole_all_keepers" 694 464 0)
def j468(P:Pz):=Obj.mk (.type "tuple") none (Data.seq #[(.str "_law_mark" 825),(.str "_law_cell" 826)] 0) #[]
def j470(P:Pz):=(fo1 "_law_lead" "_law_lead" (top 83) 0 0)
def j471(P:Pz):=(cob "_law_lead" 822 "_law_lead" 823 824 379 1 0 0 3 466 true 181 467 (.ref 468) (.ref 469) (.ref 470) 827 379 828)
def j472(P:Pz):=(fo2 "_law_lead" "_law_lead" (top 83) 3 "law_spinboard_k62_whole_all_keepers" 694 471 0)
def j475(P:Pz):=(fo1 "_law_is_mark" "_law_is_mark" (top 84) 0 0)
def j476(P:Pz):=(cob "_law_is_mark" 830 "_law_is_mark" 831 832 384 2 0 0 3 473 true 181 474 .none .none (.ref 475) 833 384 834)
def j477(P:Pz):=(fo2 "_law_is_mark" "_law_is_mark" (top 84) 3 "law_spinboard_k62_whole_all_keepers" 694 476 0)
def T10 (P:Pz):BT:=iF (iL (T9 P) [(3,X8u P),(12,X7n P)]) 397 [tz,nf0,j399 P,j400 P,j401 P,tz,nf0,j404 P,tz,j406 P,j407 P,j408 P,tz,nf0,j411 P,tz,j413 P,j414 P,j415 P,tz,nf0,j418 P,j419 P,j420 P,tz,nf0,j423 P,tz,j425 P,j426 P,j427 P,tz,nf0,j430 P,tz,j432 P,j433 P,j434 P,tz,nf0,j437 P,tz,j439 P,j440 P,j441 P,tz,nf0,j444 P,j445 P,j446 P,tz,nf0,j449 P,tz,j451 P,j452 P,j453 P,tz,nf0,j456 P,j457 P,j458 P,tz,nf0,j461 P,tz,j463 P,j464 P,j465 P,tz,nf0,j468 P,tz,j470 P,j471 P,j472 P,tz,nf0,j475 P,j476 P,j477 P]
theorem g9 (p:Program)(b:List Stmt)(w:World)(os:OsState):segRunT treeTable p w 11 (some (.ref 6)) 1 395 (SharedT.mk (T9 w.params) 397 life (Array.mk []) (Drawn.mk 0 0 0 0) 718 os) (piecesOf l9 en (Code.body b en) (Pos.mk 260 0 263 28) BB)=some (Flow.next,(SharedT.mk (T10 w.params) 478 life (Array.mk []) (Drawn.mk 0 0 0 0) 836 os),Code.body b en,(Pos.mk 384 0 389 78)):=by rw[PySem.W.Fast.te10110043849684766642,PySem.W.Fast.te14364793385576792824];kernel_rfl
def X8l(P:Pz):List DictEntry:=X6a P++[(dn P "_law_is_reduced" 841 (.ref 482)),(dn P "_law_product" 850 (.ref 489)),(dn P "_law_made" 860 (.ref 496)),(dn P "_law_tried" 866 (.ref 501)),(dn P "law" 872 (.ref 506))]
def X5e(P:Pz):=ob3 ((dn P "__name__" 165 (.str "law_spinboard_k62_whole_all_keepers" 694))::X8l P) 88
def X6k(P:Pz):List Value:=X1w P++[(.int 390 0),(.int 0 0),(.ref 481),(.int 401 0),(.int 0 0),(.ref 488),(.int 404 0),(.int 0 0),(.ref 495),(.int 410 0),(.int 0 0),(.ref 500),(.int 419 0),(.int 0 0),(.ref 505)]
def X2p(P:Pz):=ob12 (X6k P)
def j480(P:Pz):=(fo1 "_law_is_reduced" "_law_is_reduced" (top 85) 0 0)
def j481(P:Pz):=(cob "_law_is_reduced" 836 "_law_is_reduced" 837 838 390 2 0 0 3 478 true 181 479 .none .none (.ref 480) 839 390 840)
def j482(P:Pz):=(fo2 "_law_is_reduced" "_law_is_reduced" (top 85) 3 "law_spinboard_k62_whole_all_keepers" 694 481 0)
def j485(P:Pz):=Obj.mk (.type "tuple") none (Data.seq #[(.str "_law_one" 845),(.str "_law_other" 846),(.str "_law_q" 847)] 0) #[]
def j487(P:Pz):=(fo1 "_law_product" "_law_product" (top 86) 0 0)
def j488(P:Pz):=(cob "_law_product" 842 "_law_product" 843 844 401 2 0 0 3 483 true 181 484 (.ref 485) (.ref 486) (.ref 487) 848 401 849)
def j489(P:Pz):=(fo2 "_law_product" "_law_product" (top 86) 3 "law_spinboard_k62_whole_all_keepers" 694 488 0)
def j492(P:Pz):=Obj.mk (.type "tuple") none (Data.seq #[(.str "_law_rows" 854),(.str "_law_found" 855),(.str "_law_row" 856),(.str "_law_mark" 857)] 0) #[]
def j494(P:Pz):=(fo1 "_law_made" "_law_made" (top 87) 0 0)
def j495(P:Pz):=(cob "_law_made" 851 "_law_made" 852 853 404 1 0 0 3 490 true 181 491 (.ref 492) (.ref 493) (.ref 494) 858 404 859)
def j496(P:Pz):=(fo2 "_law_made" "_law_made" (top 87) 3 "law_spinboard_k62_whole_all_keepers" 694 495 0)
def j499(P:Pz):=(fo1 "_law_tried" "_law_tried" (top 88) 0 0)
def j500(P:Pz):=(cob "_law_tried" 861 "_law_tried" 862 863 410 2 0 0 3 497 true 181 498 .none .none (.ref 499) 864 410 865)
def j501(P:Pz):=(fo2 "_law_tried" "_law_tried" (top 88) 3 "law_spinboard_k62_whole_all_keepers" 694 500 0)
def j504(P:Pz):=(fo1 "law" "law" (top 89) 0 0)
def j505(P:Pz):=(cob "law" 867 "law" 868 869 419 1 0 0 3 502 true 181 503 .none .none (.ref 504) 870 419 871)
def j506(P:Pz):=(fo2 "law" "law" (top 89) 3 "law_spinboard_k62_whole_all_keepers" 694 505 0)
def T11 (P:Pz):BT:=iF (iL (T10 P) [(3,X5e P),(12,X2p P)]) 478 [tz,nf0,j480 P,j481 P,j482 P,tz,nf0,j485 P,tz,j487 P,j488 P,j489 P,tz,nf0,j492 P,tz,j494 P,j495 P,j496 P,tz,nf0,j499 P,j500 P,j501 P,tz,nf0,j504 P,j505 P,j506 P]
theorem g10 (p:Program)(b:List Stmt)(w:World)(os:OsState):segRunT treeTable p w 11 (some (.ref 6)) 1 142 (SharedT.mk (T10 w.params) 478 life (Array.mk []) (Drawn.mk 0 0 0 0) 836 os) (piecesOf l10 en (Code.body b en) (Pos.mk 384 0 389 78) BB)=some (Flow.next,(SharedT.mk (T11 w.params) 507 life (Array.mk []) (Drawn.mk 0 0 0 0) 873 os),Code.body b en,(Pos.mk 419 0 436 96)):=by rw[PySem.W.Fast.te10110043849684766642,PySem.W.Fast.te14364793385576792824];kernel_rfl
def Hf (P:Pz):Heap:=Heap.mk (Array.mk [boot_o_0 P,boot_o_1 P,boot_o_2 P,X5e P,boot_o_4 P,boot_o_5 P,boot_o_6 P,boot_o_7 P,boot_o_8 P,boot_o_9 P,boot_o_10 P,tz,X2p P,j13 P,j14 P,j15 P,j16 P,j17 P,tz,nf0,j20 P,j21 P,tz,j23 P,X5f P,j25 P,j26 P,j27 P,j28 P,j16 P,j30 P,tz,nf0,j33 P,j34 P,tz,j36 P,j37 P,j38 P,j39 P,j28 P,j16 P,j42 P,tz,nf0,j45 P,j46 P,tz,j48 P,j49 P,j50 P,j51 P,j28 P,j16 P,j54 P,tz,nf0,j57 P,j58 P,tz,j60 P,j61 P,j62 P,j63 P,j28 P,j16 P,j66 P,tz,nf0,j69 P,j70 P,tz,j72 P,j73 P,j74 P,j75 P,tz,nf0,j78 P,tz,j80 P,j81 P,j82 P,tz,nf0,j85 P,tz,j87 P,j88 P,j89 P,tz,nf0,j92 P,j93 P,j94 P,tz,nf0,j97 P,tz,j99 P,j100 P,j101 P,tz,nf0,j104 P,tz,j106 P,j107 P,j108 P,tz,nf0,j111 P,tz,j113 P,j114 P,j115 P,tz,nf0,j118 P,tz,j120 P,j121 P,j122 P,tz,nf0,j125 P,tz,j127 P,j128 P,j129 P,tz,nf0,j132 P,tz,j134 P,j135 P,j136 P,tz,nf0,j139 P,tz,j141 P,j142 P,j143 P,tz,nf0,j146 P,tz,j148 P,j149 P,j150 P,tz,nf0,j153 P,tz,j155 P,j156 P,j157 P,tz,nf0,j160 P,tz,j162 P,j163 P,j164 P,tz,nf0,j167 P,tz,j169 P,j170 P,j171 P,j172 P,j173 P,j174 P,tz,nf0,j177 P,j178 P,j179 P,tz,nf0,j182 P,tz,j184 P,j185 P,j186 P,tz,nf0,j189 P,tz,j191 P,j192 P,j193 P,tz,nf0,j196 P,tz,j198 P,j199 P,j200 P,tz,nf0,j203 P,tz,j205 P,j206 P,j207 P,tz,nf0,j210 P,j211 P,j212 P,tz,nf0,j215 P,tz,j217 P,j218 P,j219 P,j220 P,tz,nf0,j223 P,j224 P,j225 P,tz,nf0,j228 P,j229 P,j230 P,tz,nf0,j233 P,tz,j235 P,j236 P,j237 P,tz,nf0,j240 P,j241 P,j242 P,tz,nf0,j245 P,tz,j247 P,j248 P,j249 P,tz,nf0,j252 P,tz,j254 P,j255 P,j256 P,tz,nf0,j259 P,tz,j261 P,j262 P,j263 P,tz,nf0,j266 P,tz,j268 P,j269 P,j270 P,tz,nf0,j273 P,j274 P,j275 P,tz,nf0,j278 P,j279 P,j280 P,tz,nf0,j283 P,tz,j285 P,j286 P,j287 P,tz,nf0,j290 P,j291 P,j292 P,tz,nf0,j295 P,tz,j297 P,j298 P,j299 P,tz,nf0,j302 P,j303 P,j304 P,tz,nf0,j307 P,j308 P,j309 P,tz,nf0,j312 P,tz,j314 P,j315 P,j316 P,j317 P,tz,nf0,j320 P,j321 P,j322 P,tz,nf0,j325 P,j326 P,j327 P,tz,nf0,j330 P,tz,j332 P,j333 P,j334 P,tz,nf0,j337 P,j338 P,j339 P,tz,nf0,j342 P,j343 P,j344 P,tz,nf0,j347 P,tz,j349 P,j350 P,j351 P,tz,nf0,j354 P,j355 P,j356 P,tz,nf0,j359 P,j360 P,j361 P,tz,nf0,j364 P,tz,j366 P,j367 P,j368 P,tz,nf0,j371 P,tz,j373 P,j374 P,j375 P,tz,nf0,j378 P,tz,j380 P,j381 P,j382 P,tz,nf0,j385 P,tz,j387 P,j388 P,j389 P,tz,nf0,j392 P,tz,j394 P,j395 P,j396 P,tz,nf0,j399 P,j400 P,j401 P,tz,nf0,j404 P,tz,j406 P,j407 P,j408 P,tz,nf0,j411 P,tz,j413 P,j414 P,j415 P,tz,nf0,j418 P,j419 P,j420 P,tz,nf0,j423 P,tz,j425 P,j426 P,j427 P,tz,nf0,j430 P,tz,j432 P,j433 P,j434 P,tz,nf0,j437 P,tz,j439 P,j440 P,j441 P,tz,nf0,j444 P,j445 P,j446 P,tz,nf0,j449 P,tz,j451 P,j452 P,j453 P,tz,nf0,j456 P,j457 P,j458 P,tz,nf0,j461 P,tz,j463 P,j464 P,j465 P,tz,nf0,j468 P,tz,j470 P,j471 P,j472 P,tz,nf0,j475 P,j476 P,j477 P,tz,nf0,j480 P,j481 P,j482 P,tz,nf0,j485 P,tz,j487 P,j488 P,j489 P,tz,nf0,j492 P,tz,j494 P,j495 P,j496 P,tz,nf0,j499 P,j500 P,j501 P,tz,nf0,j504 P,j505 P,j506 P]) life
theorem fin_ (w:World)(os:OsState):topRun treeTable pr w 11 (some (.ref 6)) 2 ((SharedT.mk (T11 w.params) 507 life (Array.mk []) (Drawn.mk 0 0 0 0) 873 os).abs) (Thread.mk (doneF .next) cE (Pos.mk 419 0 436 96) BB)=some (Shared.mk (Hf w.params) (Array.mk []) (Drawn.mk 0 0 0 0) 873 os):=by rw[PySem.W.Fast.te14082659384304107361,PySem.W.Fast.te14364793385576792824];kernel_rfl
abbrev MM:Nat:=12+(1+(196+(214+(214+(214+(385+(385+(389+(390+(387+(395+(142+2))))))))))))
theorem run_ (w:World)(os:OsState):topRun treeTable pr w 11 (some (.ref 6)) MM (Shared.mk (boot_heap w.params) (Array.mk []) boot_drawn boot_toks os) (topStub pr)=some (Shared.mk (Hf w.params) (Array.mk []) (Drawn.mk 0 0 0 0) 873 os):=go_top (pre_ w os) (piece_block (X8g w os) (piece_app (segRun_of (g0 _ _ w os)) (piece_app (segRun_of (g1 _ _ w os)) (piece_app (segRun_of (g2 _ _ w os)) (piece_app (segRun_of (g3 _ _ w os)) (piece_app (segRun_of (g4 _ _ w os)) (piece_app (segRun_of (g5 _ _ w os)) (piece_app (segRun_of (g6 _ _ w os)) (piece_app (segRun_of (g7 _ _ w os)) (piece_app (segRun_of (g8 _ _ w os)) (piece_app (segRun_of (g9 _ _ w os)) (piece_app (segRun_of (g10 _ _ w os)) (piece_nil (fin_ w os))))))))))))))
def qq:Program:={ pr with main:={ pr.main with body:=[top 1,top 2,top 3,top 4,top 5,top 7,top 9,top 10,top 11,top 12,top 13,top 14,top 16,top 17,top 18,top 19,top 20,top 21,top 22,top 24,top 25,top 26,top 28,top 29,top 31,top 32,top 33,top 34,top 36,top 37,top 38,top 39,top 40,top 41,top 42,top 43,top 44,top 45,top 46,top 47,top 48,top 49,top 51,top 52,top 53,top 54,top 56,top 57,top 58,top 59,top 60,top 61,top 62,top 63,top 64,top 65,top 67,top 69,top 70,top 71,top 72,top 73,top 74,top 75,top 76,top 77,top 78,top 79,top 80,top 81,top 82,top 83,top 84,top 85,top 86,top 87,top 88,top 89] } }
def loose:List PySem.Str:=[Str.ofString "start",Str.ofString "NUMBERS_BEHIND"]
def lv:List (PySem.Str × WData):=[]
abbrev NN:Nat:=6726
def aa:List Addr:=[2,3,15,22,23,24,25,28,35,36,37,40,47,48,49,52,59,60,61,64,71,72,73,76,78,79,81,82,83,85,86,88,89,90,93,94,95,97,98,100,101,102,104,105,107,108,109,111,112,114,115,116,118,119,121,122,123,125,126,128,129,130,132,133,135,136,137,139,140,142,143,144,146,147,149,150,151,153,154,156,157,158,160,161,163,164,165,167,168,170,171,172,173,174,175,178,179,180,182,183,185,186,187,189,190,192,193,194,196,197,199,200,201,203,204,206,207,208,211,212,213,215,216,218,219,220,221,224,225,226,229,230,231,233,234,236,237,238,241,242,243,245,246,248,249,250,252,253,255,256,257,259,260,262,263,264,266,267,269,270,271,274,275,276,279,280,281,283,284,286,287,288,291,292,293,295,296,298,299,300,303,304,305,308,309,310,312,313,315,316,317,318,321,322,323,326,327,328,330,331,333,334,335,338,339,340,343,344,345,347,348,350,351,352,355,356,357,360,361,362,364,365,367,368,369,371,372,374,375,376,378,379,381,382,383,385,386,388,389,390,392,393,395,396,397,400,401,402,404,405,407,408,409,411,412,414,415,416,419,420,421,423,424,426,427,428,430,431,433,434,435,437,438,440,441,442,445,446,447,449,450,452,453,454,457,458,459,461,462,464,465,466,468,469,471,472,473,476,477,478,481,482,483,485,486,488,489,490,492,493,495,496,497,500,501,502,505,506]
def KK (P:Pz):Frag:=List.zip aa [boot_o_2 P,X5e P,j15 P,tz,j23 P,X5f P,j25 P,j28 P,tz,j36 P,j37 P,j28 P,tz,j48 P,j49 P,j28 P,tz,j60 P,j61 P,j28 P,tz,j72 P,j73 P,tz,j78 P,tz,j81 P,j82 P,tz,j85 P,tz,j88 P,j89 P,tz,j93 P,j94 P,tz,j97 P,tz,j100 P,j101 P,tz,j104 P,tz,j107 P,j108 P,tz,j111 P,tz,j114 P,j115 P,tz,j118 P,tz,j121 P,j122 P,tz,j125 P,tz,j128 P,j129 P,tz,j132 P,tz,j135 P,j136 P,tz,j139 P,tz,j142 P,j143 P,tz,j146 P,tz,j149 P,j150 P,tz,j153 P,tz,j156 P,j157 P,tz,j160 P,tz,j163 P,j164 P,tz,j167 P,tz,j170 P,j171 P,j172 P,j173 P,j174 P,tz,j178 P,j179 P,tz,j182 P,tz,j185 P,j186 P,tz,j189 P,tz,j192 P,j193 P,tz,j196 P,tz,j199 P,j200 P,tz,j203 P,tz,j206 P,j207 P,tz,j211 P,j212 P,tz,j215 P,tz,j218 P,j219 P,j220 P,tz,j224 P,j225 P,tz,j229 P,j230 P,tz,j233 P,tz,j236 P,j237 P,tz,j241 P,j242 P,tz,j245 P,tz,j248 P,j249 P,tz,j252 P,tz,j255 P,j256 P,tz,j259 P,tz,j262 P,j263 P,tz,j266 P,tz,j269 P,j270 P,tz,j274 P,j275 P,tz,j279 P,j280 P,tz,j283 P,tz,j286 P,j287 P,tz,j291 P,j292 P,tz,j295 P,tz,j298 P,j299 P,tz,j303 P,j304 P,tz,j308 P,j309 P,tz,j312 P,tz,j315 P,j316 P,j317 P,tz,j321 P,j322 P,tz,j326 P,j327 P,tz,j330 P,tz,j333 P,j334 P,tz,j338 P,j339 P,tz,j343 P,j344 P,tz,j347 P,tz,j350 P,j351 P,tz,j355 P,j356 P,tz,j360 P,j361 P,tz,j364 P,tz,j367 P,j368 P,tz,j371 P,tz,j374 P,j375 P,tz,j378 P,tz,j381 P,j382 P,tz,j385 P,tz,j388 P,j389 P,tz,j392 P,tz,j395 P,j396 P,tz,j400 P,j401 P,tz,j404 P,tz,j407 P,j408 P,tz,j411 P,tz,j414 P,j415 P,tz,j419 P,j420 P,tz,j423 P,tz,j426 P,j427 P,tz,j430 P,tz,j433 P,j434 P,tz,j437 P,tz,j440 P,j441 P,tz,j445 P,j446 P,tz,j449 P,tz,j452 P,j453 P,tz,j457 P,j458 P,tz,j461 P,tz,j464 P,j465 P,tz,j468 P,tz,j471 P,j472 P,tz,j476 P,j477 P,tz,j481 P,j482 P,tz,j485 P,tz,j488 P,j489 P,tz,j492 P,tz,j495 P,j496 P,tz,j500 P,j501 P,tz,j505 P,j506 P]
theorem X8p:∀ w:World,(fencedOpening treeTable pr w NN).map (fun s=>(s.heap,s.gens,s.drawn,s.toks))=some (boot_heap w.params,Array.mk [],boot_drawn,boot_toks) :=
 boot_open (p:=pr) (N:=NN) (by kernel_rfl) (by kernel_rfl) (fun s=>by kernel_rfl)
theorem X8n (w:World):((boot_heap w.params).isNs mainGlobals && (Array.mk []:Array GenState).size == 0,(boot_heap w.params).objs.size,(boot_heap w.params).nsMap mainGlobals "__annotations__")=(true,11,((some (.ref 6)):Option Value)):=by kernel_rfl
theorem le_:Nat.ble MM NN=true:=by kernel_rfl
abbrev rr:OpenRow:=PySem.Challenge.rw_spinboard_k62_whole_all_keepers.row
abbrev HH:Hook:=kHook KK aa (fun _=>by kernel_rfl)
abbrev Xt (s:Shared):Bool:=xlAt qq lv s && recOk (RowW.records rr.toRowW) s
abbrev sf (w:World)(os:OsState):Shared:=Shared.mk (Hf w.params) (Array.mk []) (Drawn.mk 0 0 0 0) 873 os
theorem lk1 (w:World)(os:OsState):(staticsOk (importedModules pr.main.body) (boot_heap w.params) (Hf w.params) && namesBound pr (Hf w.params) && gensDone (sf w os) && laidKept (boot_heap w.params) (Hf w.params))=true:=by rw[PySem.W.Fast.te5923862056798008813];kernel_rfl
theorem lk2 (w:World)(os:OsState):openSeen qq loose (importedModules pr.main.body) Xt true (sf w os)=openGood qq loose:=by rw[PySem.W.Fast.te4187177175401517315,PySem.W.Fast.te5923862056798008813];kernel_rfl
theorem lk3 (w:World)(os:OsState):HH.obs (sf w os)=HH.val w:=by kernel_rfl
theorem left_:LeftO pr qq loose Xt HH.obs HH.val NN :=
 LeftO.of_pieces (H₀:=boot_heap) (H₁:=Hf) X8p X8n run_ le_ fun w=>funext fun os=>looks_pair (lk1 w os) (looks_pair (lk2 w os) (lk3 w os))
theorem said_:PySem.Challenge.rw_spinboard_k62_whole_all_keepers.wellSaid=true:=by rw[PySem.W.Fast.te9446332074065402090];kernel_rfl
theorem k506 (P:Pz):(KK P).lookup 506=some (j506 P):=by kernel_rfl
theorem k82 (P:Pz):(KK P).lookup 82=some (j82 P):=by kernel_rfl
theorem k89 (P:Pz):(KK P).lookup 89=some (j89 P):=by kernel_rfl
theorem k94 (P:Pz):(KK P).lookup 94=some (j94 P):=by kernel_rfl
theorem k101 (P:Pz):(KK P).lookup 101=some (j101 P):=by kernel_rfl
theorem k108 (P:Pz):(KK P).lookup 108=some (j108 P):=by kernel_rfl
theorem k115 (P:Pz):(KK P).lookup 115=some (j115 P):=by kernel_rfl
theorem k122 (P:Pz):(KK P).lookup 122=some (j122 P):=by kernel_rfl
theorem k129 (P:Pz):(KK P).lookup 129=some (j129 P):=by kernel_rfl
theorem k136 (P:Pz):(KK P).lookup 136=some (j136 P):=by kernel_rfl
theorem k143 (P:Pz):(KK P).lookup 143=some (j143 P):=by kernel_rfl
theorem k150 (P:Pz):(KK P).lookup 150=some (j150 P):=by kernel_rfl
theorem k157 (P:Pz):(KK P).lookup 157=some (j157 P):=by kernel_rfl
theorem k164 (P:Pz):(KK P).lookup 164=some (j164 P):=by kernel_rfl
theorem k171 (P:Pz):(KK P).lookup 171=some (j171 P):=by kernel_rfl
theorem k179 (P:Pz):(KK P).lookup 179=some (j179 P):=by kernel_rfl
theorem k186 (P:Pz):(KK P).lookup 186=some (j186 P):=by kernel_rfl
theorem k193 (P:Pz):(KK P).lookup 193=some (j193 P):=by kernel_rfl
theorem k200 (P:Pz):(KK P).lookup 200=some (j200 P):=by kernel_rfl
theorem k207 (P:Pz):(KK P).lookup 207=some (j207 P):=by kernel_rfl
theorem k212 (P:Pz):(KK P).lookup 212=some (j212 P):=by kernel_rfl
theorem k219 (P:Pz):(KK P).lookup 219=some (j219 P):=by kernel_rfl
theorem k225 (P:Pz):(KK P).lookup 225=some (j225 P):=by kernel_rfl
theorem k230 (P:Pz):(KK P).lookup 230=some (j230 P):=by kernel_rfl
theorem k237 (P:Pz):(KK P).lookup 237=some (j237 P):=by kernel_rfl
theorem k242 (P:Pz):(KK P).lookup 242=some (j242 P):=by kernel_rfl
theorem k249 (P:Pz):(KK P).lookup 249=some (j249 P):=by kernel_rfl
theorem k256 (P:Pz):(KK P).lookup 256=some (j256 P):=by kernel_rfl
theorem k263 (P:Pz):(KK P).lookup 263=some (j263 P):=by kernel_rfl
theorem k270 (P:Pz):(KK P).lookup 270=some (j270 P):=by kernel_rfl
theorem k275 (P:Pz):(KK P).lookup 275=some (j275 P):=by kernel_rfl
theorem k280 (P:Pz):(KK P).lookup 280=some (j280 P):=by kernel_rfl
theorem k287 (P:Pz):(KK P).lookup 287=some (j287 P):=by kernel_rfl
theorem k292 (P:Pz):(KK P).lookup 292=some (j292 P):=by kernel_rfl
theorem k299 (P:Pz):(KK P).lookup 299=some (j299 P):=by kernel_rfl
theorem k304 (P:Pz):(KK P).lookup 304=some (j304 P):=by kernel_rfl
theorem k309 (P:Pz):(KK P).lookup 309=some (j309 P):=by kernel_rfl
theorem k316 (P:Pz):(KK P).lookup 316=some (j316 P):=by kernel_rfl
theorem k322 (P:Pz):(KK P).lookup 322=some (j322 P):=by kernel_rfl
theorem k327 (P:Pz):(KK P).lookup 327=some (j327 P):=by kernel_rfl
theorem k334 (P:Pz):(KK P).lookup 334=some (j334 P):=by kernel_rfl
theorem k339 (P:Pz):(KK P).lookup 339=some (j339 P):=by kernel_rfl
theorem k344 (P:Pz):(KK P).lookup 344=some (j344 P):=by kernel_rfl
theorem k351 (P:Pz):(KK P).lookup 351=some (j351 P):=by kernel_rfl
theorem k356 (P:Pz):(KK P).lookup 356=some (j356 P):=by kernel_rfl
theorem k361 (P:Pz):(KK P).lookup 361=some (j361 P):=by kernel_rfl
theorem k368 (P:Pz):(KK P).lookup 368=some (j368 P):=by kernel_rfl
theorem k375 (P:Pz):(KK P).lookup 375=some (j375 P):=by kernel_rfl
theorem k382 (P:Pz):(KK P).lookup 382=some (j382 P):=by kernel_rfl
theorem k389 (P:Pz):(KK P).lookup 389=some (j389 P):=by kernel_rfl
theorem k396 (P:Pz):(KK P).lookup 396=some (j396 P):=by kernel_rfl
theorem k401 (P:Pz):(KK P).lookup 401=some (j401 P):=by kernel_rfl
theorem k408 (P:Pz):(KK P).lookup 408=some (j408 P):=by kernel_rfl
theorem k415 (P:Pz):(KK P).lookup 415=some (j415 P):=by kernel_rfl
theorem k420 (P:Pz):(KK P).lookup 420=some (j420 P):=by kernel_rfl
theorem k427 (P:Pz):(KK P).lookup 427=some (j427 P):=by kernel_rfl
theorem k434 (P:Pz):(KK P).lookup 434=some (j434 P):=by kernel_rfl
theorem k441 (P:Pz):(KK P).lookup 441=some (j441 P):=by kernel_rfl
theorem k446 (P:Pz):(KK P).lookup 446=some (j446 P):=by kernel_rfl
theorem k453 (P:Pz):(KK P).lookup 453=some (j453 P):=by kernel_rfl
theorem k458 (P:Pz):(KK P).lookup 458=some (j458 P):=by kernel_rfl
theorem k465 (P:Pz):(KK P).lookup 465=some (j465 P):=by kernel_rfl
theorem k472 (P:Pz):(KK P).lookup 472=some (j472 P):=by kernel_rfl
theorem k477 (P:Pz):(KK P).lookup 477=some (j477 P):=by kernel_rfl
theorem k482 (P:Pz):(KK P).lookup 482=some (j482 P):=by kernel_rfl
theorem k489 (P:Pz):(KK P).lookup 489=some (j489 P):=by kernel_rfl
theorem k496 (P:Pz):(KK P).lookup 496=some (j496 P):=by kernel_rfl
theorem k501 (P:Pz):(KK P).lookup 501=some (j501 P):=by kernel_rfl
theorem k174 (P:Pz):(KK P).lookup 174=some (j174 P):=by kernel_rfl
theorem k173 (P:Pz):(KK P).lookup 173=some (j173 P):=by kernel_rfl
theorem k172 (P:Pz):(KK P).lookup 172=some (j172 P):=by kernel_rfl
theorem k317 (P:Pz):(KK P).lookup 317=some (j317 P):=by kernel_rfl
theorem k220 (P:Pz):(KK P).lookup 220=some (j220 P):=by kernel_rfl
theorem ft {K:PySem.W.Frag}{x:Str}{st:Stmt}{f:Addr}{oc:Value}{od an:Option Addr}{osl:Array (Option Value)}{dV kV doc pm cdv ct:Value}
  (l:K.lookup f=some ⟨oc,od,.func (PySem.W.fnOf x x (Z1s st) (Z1m st) (Z0i st) dV kV doc pm an cdv ct),osl⟩) (a:PySem.W.nsIn K mainGlobals x=some (some (.ref f)):=by kernel_rfl) (c:PySem.W.codeIn K cdv x=true:=by kernel_rfl) (k:PySem.W.keepIn K (.ref f)=true:=by kernel_rfl):FunAt K x st dV:=fat a l c k
theorem f7 (P:Pz):FunAt (KK P) "is_whole" (top 7) .none:=ft (k82 P)
theorem f9 (P:Pz):FunAt (KK P) "halved_out" (top 9) .none:=ft (k89 P)
theorem f10 (P:Pz):FunAt (KK P) "plus" (top 10) .none:=ft (k94 P)
theorem f11 (P:Pz):FunAt (KK P) "minus" (top 11) .none:=ft (k101 P)
theorem f12 (P:Pz):FunAt (KK P) "spun" (top 12) .none:=ft (k108 P)
theorem f13 (P:Pz):FunAt (KK P) "spun_once" (top 13) .none:=ft (k115 P)
theorem f14 (P:Pz):FunAt (KK P) "rooted" (top 14) .none:=ft (k122 P)
theorem f16 (P:Pz):FunAt (KK P) "ones" (top 16) .none:=ft (k129 P)
theorem f17 (P:Pz):FunAt (KK P) "is_word" (top 17) .none:=ft (k136 P)
theorem f18 (P:Pz):FunAt (KK P) "is_mark" (top 18) .none:=ft (k143 P)
theorem f19 (P:Pz):FunAt (KK P) "is_even" (top 19) .none:=ft (k150 P)
theorem f20 (P:Pz):FunAt (KK P) "is_even_mark" (top 20) .none:=ft (k157 P)
theorem f21 (P:Pz):FunAt (KK P) "commute" (top 21) .none:=ft (k164 P)
theorem f22 (P:Pz):FunAt (KK P) "product" (top 22) .none:=ft (k171 P)
theorem f27 (P:Pz):FunAt (KK P) "start" (top 27) (.ref 174):=ft (k179 P)
theorem f28 (P:Pz):FunAt (KK P) "check_beginning" (top 28) .none:=ft (k186 P)
theorem f29 (P:Pz):FunAt (KK P) "cells_of" (top 29) .none:=ft (k193 P)
theorem f31 (P:Pz):FunAt (KK P) "solved" (top 31) .none:=ft (k200 P)
theorem f32 (P:Pz):FunAt (KK P) "cleared" (top 32) .none:=ft (k207 P)
theorem f33 (P:Pz):FunAt (KK P) "places_at_one" (top 33) .none:=ft (k212 P)
theorem f34 (P:Pz):FunAt (KK P) "solution" (top 34) .none:=ft (k219 P)
theorem f38 (P:Pz):FunAt (KK P) "is_table" (top 38) .none:=ft (k225 P)
theorem f39 (P:Pz):FunAt (KK P) "commutes_with_all" (top 39) .none:=ft (k230 P)
theorem f40 (P:Pz):FunAt (KK P) "check_table" (top 40) .none:=ft (k237 P)
theorem f41 (P:Pz):FunAt (KK P) "reduced" (top 41) .none:=ft (k242 P)
theorem f42 (P:Pz):FunAt (KK P) "without_lead" (top 42) .none:=ft (k249 P)
theorem f43 (P:Pz):FunAt (KK P) "lead" (top 43) .none:=ft (k256 P)
theorem f44 (P:Pz):FunAt (KK P) "least_cell" (top 44) .none:=ft (k263 P)
theorem f45 (P:Pz):FunAt (KK P) "has_at_lead" (top 45) .none:=ft (k270 P)
theorem f46 (P:Pz):FunAt (KK P) "made_of" (top 46) .none:=ft (k275 P)
theorem f47 (P:Pz):FunAt (KK P) "rows_with" (top 47) .none:=ft (k280 P)
theorem f48 (P:Pz):FunAt (KK P) "product_of" (top 48) .none:=ft (k287 P)
theorem f49 (P:Pz):FunAt (KK P) "apart_by" (top 49) .none:=ft (k292 P)
theorem f51 (P:Pz):FunAt (KK P) "keepers" (top 51) .none:=ft (k299 P)
theorem f52 (P:Pz):FunAt (KK P) "keepers_with" (top 52) .none:=ft (k304 P)
theorem f53 (P:Pz):FunAt (KK P) "spins_on" (top 53) .none:=ft (k309 P)
theorem f54 (P:Pz):FunAt (KK P) "has_spins" (top 54) .none:=ft (k316 P)
theorem f57 (P:Pz):FunAt (KK P) "check_move" (top 57) .none:=ft (k322 P)
theorem f58 (P:Pz):FunAt (KK P) "has_move_form" (top 58) .none:=ft (k327 P)
theorem f59 (P:Pz):FunAt (KK P) "named_cells" (top 59) .none:=ft (k334 P)
theorem f60 (P:Pz):FunAt (KK P) "turned" (top 60) .none:=ft (k339 P)
theorem f61 (P:Pz):FunAt (KK P) "mixed" (top 61) .none:=ft (k344 P)
theorem f62 (P:Pz):FunAt (KK P) "mixed_at" (top 62) .none:=ft (k351 P)
theorem f63 (P:Pz):FunAt (KK P) "spun_where" (top 63) .none:=ft (k356 P)
theorem f64 (P:Pz):FunAt (KK P) "word_behind" (top 64) .none:=ft (k361 P)
theorem f65 (P:Pz):FunAt (KK P) "exchanged" (top 65) .none:=ft (k368 P)
theorem f67 (P:Pz):FunAt (KK P) "run" (top 67) .none:=ft (k375 P)
theorem f69 (P:Pz):FunAt (KK P) "_law_cell_at" (top 69) .none:=ft (k382 P)
theorem f70 (P:Pz):FunAt (KK P) "_law_whole" (top 70) .none:=ft (k389 P)
theorem f71 (P:Pz):FunAt (KK P) "_law_cells_by" (top 71) .none:=ft (k396 P)
theorem f72 (P:Pz):FunAt (KK P) "_law_low" (top 72) .none:=ft (k401 P)
theorem f73 (P:Pz):FunAt (KK P) "_law_spin" (top 73) .none:=ft (k408 P)
theorem f74 (P:Pz):FunAt (KK P) "_law_amount_by" (top 74) .none:=ft (k415 P)
theorem f75 (P:Pz):FunAt (KK P) "_law_board_by" (top 75) .none:=ft (k420 P)
theorem f76 (P:Pz):FunAt (KK P) "_law_mark_by" (top 76) .none:=ft (k427 P)
theorem f77 (P:Pz):FunAt (KK P) "_law_bits" (top 77) .none:=ft (k434 P)
theorem f78 (P:Pz):FunAt (KK P) "_law_times" (top 78) .none:=ft (k441 P)
theorem f79 (P:Pz):FunAt (KK P) "_law_move_by" (top 79) .none:=ft (k446 P)
theorem f80 (P:Pz):FunAt (KK P) "_law_plain_row" (top 80) .none:=ft (k453 P)
theorem f81 (P:Pz):FunAt (KK P) "_law_held_board" (top 81) .none:=ft (k458 P)
theorem f82 (P:Pz):FunAt (KK P) "_law_keeps" (top 82) .none:=ft (k465 P)
theorem f83 (P:Pz):FunAt (KK P) "_law_lead" (top 83) .none:=ft (k472 P)
theorem f84 (P:Pz):FunAt (KK P) "_law_is_mark" (top 84) .none:=ft (k477 P)
theorem f85 (P:Pz):FunAt (KK P) "_law_is_reduced" (top 85) .none:=ft (k482 P)
theorem f86 (P:Pz):FunAt (KK P) "_law_product" (top 86) .none:=ft (k489 P)
theorem f87 (P:Pz):FunAt (KK P) "_law_made" (top 87) .none:=ft (k496 P)
theorem f88 (P:Pz):FunAt (KK P) "_law_tried" (top 88) .none:=ft (k501 P)
end Hd
end K62
open PySem PySem.W PyProof.Rows
set_option maxRecDepth 100000 in
set_option maxHeartbeats 0 in
theorem PySem.Challenge.cw_spinboard_k62_whole_all_keepers_holds : PySem.Challenge.rw_spinboard_k62_whole_all_keepers.Holds := by
 refine holds_law K62.Hd.said_ fun said=>?_
 refine holds_open (q:=K62.Hd.qq) (loose:=K62.Hd.loose) (Xt:=K62.Hd.Xt) (XP:=XL K62.Hd.qq K62.Hd.lv) (Yf:=K62.Hd.HH.obs) (Ya:=K62.Hd.HH.val) (YP:=K62.Hd.HH.says) (d:=⟨"law",L2.Z1s (K62.top 89),L2.Z1m (K62.top 89),L2.Z0i (K62.top 89),K62.Hd.dPos (K62.top 89)⟩) (kwd:=[]) (N:=K62.Hd.NN) K62.Hd.left_ K62.Hd.HH.of K62.Hd.HH.keeps (fun s e=>xl_of s (Bool.and_eq_true_iff.mp e).1) XL.keeps (by kernel_rfl) (by kernel_rfl) (by kernel_rfl) (fun s e=>recFacts_of (Bool.and_eq_true_iff.mp e).2) (by kernel_rfl) said (by kernel_rfl) ⟨rfl,rfl,rfl,rfl,rfl,by decide +kernel⟩ ?hw ?hc
 case hw=>w_witness2
 refine K62.walk (l:=PySem.Challenge.rw_spinboard_k62_whole_all_keepers) rfl rfl (fun w h Y=>PySem.W.kIn_of Y) ?F
 case F =>
  intro w mg fa h KX G hmg
  refine' K62.X8i (K:=K62.Hd.KK w.params) (f:=506) (aN:=317) (aO:=173) (aZ:=172) (Dd:=174) (aP:=220) (tM:=407) (tF:=476) KX G hmg ?aL (K62.Hd.k506 _) ?cL ?kL (K62.Hd.f7 _) (K62.Hd.f9 _) (K62.Hd.f10 _) (K62.Hd.f11 _) (K62.Hd.f12 _) (K62.Hd.f13 _) (K62.Hd.f14 _) (K62.Hd.f16 _) (K62.Hd.f17 _) (K62.Hd.f18 _) (K62.Hd.f19 _) (K62.Hd.f20 _) (K62.Hd.f21 _) (K62.Hd.f22 _) (K62.Hd.f27 _) (K62.Hd.f28 _) (K62.Hd.f29 _) (K62.Hd.f31 _) (K62.Hd.f32 _) (K62.Hd.f33 _) (K62.Hd.f34 _) (K62.Hd.f38 _) (K62.Hd.f39 _) (K62.Hd.f40 _) (K62.Hd.f41 _) (K62.Hd.f42 _) (K62.Hd.f43 _) (K62.Hd.f44 _) (K62.Hd.f45 _) (K62.Hd.f46 _) (K62.Hd.f47 _) (K62.Hd.f48 _) (K62.Hd.f49 _) (K62.Hd.f51 _) (K62.Hd.f52 _) (K62.Hd.f53 _) (K62.Hd.f54 _) (K62.Hd.f57 _) (K62.Hd.f58 _) (K62.Hd.f59 _) (K62.Hd.f60 _) (K62.Hd.f61 _) (K62.Hd.f62 _) (K62.Hd.f63 _) (K62.Hd.f64 _) (K62.Hd.f65 _) (K62.Hd.f67 _) (K62.Hd.f69 _) (K62.Hd.f70 _) (K62.Hd.f71 _) (K62.Hd.f72 _) (K62.Hd.f73 _) (K62.Hd.f74 _) (K62.Hd.f75 _) (K62.Hd.f76 _) (K62.Hd.f77 _) (K62.Hd.f78 _) (K62.Hd.f79 _) (K62.Hd.f80 _) (K62.Hd.f81 _) (K62.Hd.f82 _) (K62.Hd.f83 _) (K62.Hd.f84 _) (K62.Hd.f85 _) (K62.Hd.f86 _) (K62.Hd.f87 _) (K62.Hd.f88 _) ?z0 ?z1 ?z2 ?z3 ?z4 ?z5 ?z6 ?z7 ?z8 ?z9 ?z10 ?z11 ?z12 ?z13 ?z14 ?z15 ?z16 ?z17 ?gM0 ?tD ?gO0 ?tO ?gZ0 ?tZ ?gN0 ?tN ?nN0 ?gP0 ?tP ?gF0
  (case aL=>kernel_rfl);(case cL=>kernel_rfl);(case kL=>kernel_rfl)
  (case z0=>kernel_rfl);(case z1=>kernel_rfl);(case z2=>kernel_rfl);(case z3=>kernel_rfl);(case z4=>kernel_rfl);(case z5=>kernel_rfl);(case z6=>kernel_rfl);(case z7=>kernel_rfl);(case z8=>kernel_rfl);(case z9=>kernel_rfl);(case z10=>kernel_rfl);(case z11=>kernel_rfl);(case z12=>kernel_rfl);(case z13=>kernel_rfl);(case z14=>kernel_rfl);(case z15=>kernel_rfl);(case z16=>kernel_rfl);(case z17=>kernel_rfl)
  (case gM0=>kernel_rfl)
  (case tD=>exact K62.Hd.k174 _);(case gO0=>kernel_rfl);(case tO=>exact K62.Hd.k173 _);(case gZ0=>kernel_rfl);(case tZ=>exact K62.Hd.k172 _)
  (case gN0=>kernel_rfl);(case tN=>exact K62.Hd.k317 _);(case nN0=>decide)
  (case gP0=>kernel_rfl);(case tP=>exact K62.Hd.k220 _);(case gF0=>kernel_rfl)
