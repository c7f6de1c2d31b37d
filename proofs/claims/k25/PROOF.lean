import PyProof.Rows.All
import Wide.All
import OpenK.AllK
import Wide.FinOn
import Lean
import PyProof.EqAt
import PyProof.EqKinds
import PyProof.TupleCall
import PyProof.Rows.BitMore
import PyProof.ConsumeWalk
import PyProof.Rows.SortWalk
import PyProof.Rows.TupDisplay
import PyProof.EnumMake
import PyProof.Rows.EnumRows
import PyProof.SumAny
import PyProof.Rows.MinMaxN
import PyProof.StationsW
import PyProof.ExcClass3
import PyProof.ExcBaseAll.ValueError
import PyProof.RulesAs
import PyProof.ExcArgsOwn
import PyProof.ExcAttrAll.ValueError
import PySem.Challenge.RW_spinboard_k25_boards_and_hefts
-- CHANGE: your row's module here, as the last of these rows
set_option Elab.async false
set_option linter.all false
set_option maxRecDepth 100000
/-! THE HAND LAYER, for ints, bools, texts, own classes, LISTS and tuples (index, slices, in, append, pop ..), calls, loops. Paste it whole ahead of your own text; what your proof does not reach may be deleted. -/
namespace L2
open PySem PySem.Spec PyProof.Rows

abbrev Key := Sum Int Str
def keyIs : Key → Value → Bool
  | .inl k, v => Value.isInt k v
  | .inr x, v => Value.isStrOf x v
def keyH (w : World) : Key → Int
  | .inl k => hashInt k
  | .inr x => hashStr w x
theorem keyIs_shape : ∀ {k : Key} {v : Value}, keyIs k v = true → (∃ i t, k = Sum.inl i ∧ v = Value.int i t) ∨ (∃ x t, k = Sum.inr x ∧ v = Value.str x t)
  | .inl i, v, h => by
    obtain ⟨t, e⟩ := Value.isInt_shape (k := i) (v := v) h
    exact .inl ⟨i, t, rfl, e⟩
  | .inr x, v, h => by
    obtain ⟨t, e⟩ := Value.isStrOf_shape (x := x) (v := v) h
    exact .inr ⟨x, t, rfl, e⟩
theorem key_ll (a b : Int) : decide ((Sum.inl a : Key) = Sum.inl b) = (a == b) := by
  by_cases e : a = b
  · subst e; simp
  · have h : ¬ (Sum.inl a : Key) = Sum.inl b := fun q => e (Sum.inl.inj q)
    rw [decide_eq_false h]
    exact (beq_eq_false_iff_ne.mpr e).symm
theorem key_rr (a b : Str) : decide ((Sum.inr a : Key) = Sum.inr b) = decide (a = b) := by
  by_cases e : a = b
  · subst e; simp
  · have h : ¬ (Sum.inr a : Key) = Sum.inr b := fun q => e (Sum.inr.inj q)
    rw [decide_eq_false h, decide_eq_false e]
theorem key_lr (a : Int) (b : Str) : decide ((Sum.inl a : Key) = Sum.inr b) = false := decide_eq_false (fun q => nomatch q)
theorem key_rl (a : Str) (b : Int) : decide ((Sum.inr a : Key) = Sum.inl b) = false := decide_eq_false (fun q => nomatch q)

def mixKind (prog : Program) (w : World) : PySem.KeyKind prog w Key where
  is := keyIs
  hash := keyH w
  inj := fun v a b ha hb => by
    rcases keyIs_shape ha with ⟨i, t, rfl, rfl⟩ | ⟨x, t, rfl, rfl⟩
    · rcases keyIs_shape hb with ⟨j, u, rfl, e⟩ | ⟨y, u, rfl, e⟩
      · injection e with e1 _; rw [e1]
      · exact nomatch e
    · rcases keyIs_shape hb with ⟨j, u, rfl, e⟩ | ⟨y, u, rfl, e⟩
      · exact nomatch e
      · injection e with e1 _; rw [e1]
  byValue := fun k v h => by
    rcases keyIs_shape h with ⟨i, t, rfl, rfl⟩ | ⟨x, t, rfl, rfl⟩ <;> rfl
  pyHash := fun hv h => by
    rcases keyIs_shape hv with ⟨i, t, rfl, rfl⟩ | ⟨x, t, rfl, rfl⟩
    · exact wpAny_pyHash_int h
    · exact wpAny_pyHash_str h
  eqBool := fun hu hv h => by
    rcases keyIs_shape hu with ⟨i, t, rfl, rfl⟩ | ⟨x, t, rfl, rfl⟩
    · rcases keyIs_shape hv with ⟨j, u, rfl, rfl⟩ | ⟨y, u, rfl, rfl⟩
      · rw [key_ll] at h; exact wpAny_eqBool_int h
      · rw [key_lr] at h; exact SeqAt.EqAt.int_str i t y u _ _ _ _ h
    · rcases keyIs_shape hv with ⟨j, u, rfl, rfl⟩ | ⟨y, u, rfl, rfl⟩
      · rw [key_rl] at h; exact SeqAt.EqAt.str_int x t j u _ _ _ _ h
      · rw [key_rr] at h; exact wpAny_eqBool_str h
  «strs» := fun k x t v h => by
    rcases keyIs_shape h with ⟨i, u, rfl, e⟩ | ⟨y, u, rfl, e⟩
    · exact nomatch e
    · injection e with e1 _
      subst e1
      cases v <;> rfl

end L2

namespace L2
open PySem PySem.Spec PyProof.Rows

inductive V where
  | non | bl (b : Bool) | int (i : Int) | str (x : Str) | byt (b : Array UInt8) | flt (b : UInt64) | ref (a : Addr) | ty (n : String)
  deriving DecidableEq

def RelV : V → Value → Prop
  | .non, u => u = Value.none
  | .bl b, u => u = Value.bool b
  | .int i, u => ∃ t, u = Value.int i t
  | .str x, u => ∃ t, u = Value.str x t
  | .byt b, u => ∃ t, u = Value.bytes b t
  | .flt b, u => ∃ t, u = Value.float b t
  | .ref a, u => u = Value.ref a
  | .ty n, u => u = Value.type n

abbrev Vals : List V → List Value → Prop := Paired RelV
theorem Vals.length {xs : List V} {us : List Value} (r : Vals xs us) : xs.length = us.length := Paired.length r
theorem Vals.get : ∀ {xs : List V} {us : List Value} {i : Nat} {x : V}, Vals xs us → xs[i]? = some x → ∃ u, us[i]? = some u ∧ RelV x u
  | _, _, _, _, .nil, e => by simp at e
  | _, _, 0, _, .cons r _, e => by simp at e; subst e; exact ⟨_, rfl, r⟩
  | _, _, i + 1, x, .cons _ t, e => by
    obtain ⟨u, h1, h2⟩ := Vals.get (i := i) (x := x) t (by simpa using e)
    exact ⟨u, by simpa using h1, h2⟩
theorem Vals.set {x : V} {u : Value} (r : RelV x u) : ∀ {xs : List V} {us : List Value} (i : Nat), Vals xs us → Vals (xs.set i x) (us.set i u)
  | _, _, _, .nil => .nil
  | _, _, 0, .cons _ t => .cons r t
  | _, _, i + 1, .cons q t => .cons q (Vals.set r i t)
theorem Vals.append : ∀ {xs ys : List V} {us ws : List Value}, Vals xs us → Vals ys ws → Vals (xs ++ ys) (us ++ ws)
  | _, _, _, _, .nil, s => s
  | _, _, _, _, .cons r t, s => .cons r (Vals.append t s)
theorem Vals.take : ∀ {xs : List V} {us : List Value} (n : Nat), Vals xs us → Vals (xs.take n) (us.take n)
  | _, _, 0, _ => .nil
  | _, _, _ + 1, .nil => .nil
  | _, _, n + 1, .cons r t => .cons r (Vals.take n t)
theorem Vals.drop : ∀ {xs : List V} {us : List Value} (n : Nat), Vals xs us → Vals (xs.drop n) (us.drop n)
  | _, _, 0, r => r
  | _, _, _ + 1, .nil => .nil
  | _, _, n + 1, .cons _ t => Vals.drop n t
def RelO : Option V → Option Value → Prop
  | some v, some u => RelV v u
  | none, none => True
  | _, _ => False
def KV {κ : Type} : List (κ × V) → List (κ × Value) → Prop := Paired fun (p : κ × V) (q : κ × Value) => p.1 = q.1 ∧ RelV p.2 q.2

def kV : Key → V
  | .inl i => .int i
  | .inr x => .str x

inductive HO where
  /-- a list -/
  | lst (xs : List V)
  /-- a tuple (never changes) -/
  | tup (xs : List V)
  /-- a dict whose keys are ints and texts; one whose keys are tuples of ints and texts (the empty one is both) -/
  | dK (kvs : List (Key × V)) | dT (kvs : List (List Key × V))
  /-- a set of ints: its members, its size -/
  | set (S : Int → Bool) (n : Nat)
  /-- an instance of the class at C, its dict at dx, its attributes -/
  | ins (C dx : Addr) (fs : List (Str × V))
  /-- the dict of the instance at x -/
  | own (x : Addr)
  /-- the dict of an exception -/
  | xd (fs : List (Str × V))
  /-- a bound method, f of x -/
  | met (f x : Addr)
  /-- a range object lo, lo + 1, .. below hi -/
  | rng (lo hi : Int)
  /-- a thing that is known to the object (the script; a dict while a loop walks it): read, never written while it is so -/
  | frz (o : Obj) (u : HO)
  /-- a code object's table -/
  | tbl (ps : Array Value)
  /-- any other thing, by what is true of its one object (a def of one's own: SetO a S n := HO.ext fun h => ..) -/
  | ext (φ : Heap → Prop)

abbrev Hp := Addr → Option HO
def upd (H : Hp) (a : Addr) (o : HO) : Hp := fun b => if b = a then some o else H b
theorem upd_same {H : Hp} {a : Addr} {o : HO} : upd H a o a = some o := by unfold upd; rw [if_pos rfl]
theorem upd_ne {H : Hp} {a b : Addr} {o : HO} (h : b ≠ a) : upd H a o b = H b := by unfold upd; rw [if_neg h]
theorem ne_of {H : Hp} {a b : Addr} {o u : HO} (h : H a = some o) (h' : H b = some u) (d : o ≠ u) : a ≠ b := by
  intro e; subst e; rw [h] at h'; exact d (Option.some.inj h')
theorem ne_of_none {H : Hp} {a b : Addr} {o : HO} (h : H a = some o) (h' : H b = none) : a ≠ b := by
  intro e; subst e; rw [h] at h'; cases h'

section
variable (P : Program) (w : World)
def ObjOk (H : Hp) (h : Heap) (a : Addr) : HO → Prop
  | .lst xs => xs.length ≤ sizeLine ∧ ∃ (its : List Value) (n : Nat), Vals xs its ∧ h.get? a = some { cls := .type "list", data := .seq its.toArray n }
  | .tup xs => xs.length ≤ sizeLine ∧ ∃ its : List Value, Vals xs its ∧ IsTup h a its.toArray
  | .dK kvs => kvs.length ≤ sizeLine ∧ (a == sysModules) = false ∧ ∃ vs, KV kvs vs ∧ h.DictOf (mixKind P w) a vs
  | .dT kvs => kvs.length ≤ sizeLine ∧ (a == sysModules) = false ∧ ∃ xs : List (List Key × Addr × Value),
      Paired (fun (p : List Key × V) (q : List Key × Addr × Value) => p.1 = q.1 ∧ H q.2.1 = some (.tup (p.1.map kV)) ∧ RelV p.2 q.2.2) kvs xs ∧
      ∃ o es ep, h.get? a = some o ∧ o.ExactDict ∧ o.data = .dict es ep ∧ es.toList = xs.map (entryOfKey (tupleKind (mixKind P w))) ∧ (xs.map (·.1)).Nodup
  | .set S n => h.SetOf (intKind P w) a S n
  | .ins C dx fs => H dx = some (.own a) ∧ fs.length ≤ 1000 ∧ dx ≠ a ∧ h.get? a = some (PySem.W.instObj C dx) ∧
      ∃ mA, h.Ns1 dx mA ∧ (∀ f, RelO (fs.lookup f) (mA f)) ∧ PySem.Within mA (fs.map (·.1))
  | .own _ => ∃ o, h.get? a = some o
  | .xd fs => ∃ mA, h.Ns1 a mA ∧ ∀ f, RelO (fs.lookup f) (mA f)
  | .rng lo hi => ∃ t u v, h.get? a = some { cls := .type "range", data := .fields #[.int lo t, .int hi u, .int 1 v] }
  | .frz o u => h.get? a = some o ∧ ObjOk H h a u
  | .tbl ps => h.get? a = some { cls := .none, data := .fields ps }
  | .met f x => h.get? a = some (PySem.W.methodObj (.ref f) (.ref x))
  | .ext φ => φ h ∧ (∃ o, h.get? a = some o) ∧ ∀ h1 h2 : Heap, φ h1 → (∀ o, h1.get? a = some o → h2.get? a = some o) → φ h2
def HOk (H : Hp) (h : Heap) : Prop := ∀ a o, H a = some o → ObjOk P w H h a o
end

section
variable {P : Program} {w : World} {H H' : Hp} {h h' : Heap} {a : Addr} {o : HO}
theorem ObjOk.lt (x : ObjOk P w H h a o) : a < h.objs.size := by
  cases o with
  | lst xs => obtain ⟨_, _, _, _, e⟩ := x; exact Heap.lt_size e
  | tup xs => obtain ⟨_, _, _, p⟩ := x; exact p.lt
  | dK kvs => obtain ⟨_, _, _, _, o, _, _, e, _⟩ := x; exact Heap.lt_size e
  | dT kvs => obtain ⟨_, _, _, _, o, _, _, e, _⟩ := x; exact Heap.lt_size e
  | set S n => obtain ⟨o, _, _, _, e, _⟩ := x; exact Heap.lt_size e
  | ins C dx fs => obtain ⟨_, _, _, e, _⟩ := x; exact Heap.lt_size e
  | own y => obtain ⟨_, e⟩ := x; exact Heap.lt_size e
  | xd fs => obtain ⟨_, ⟨_, _, _, e, _⟩, _⟩ := x; exact Heap.lt_size e
  | rng lo hi => obtain ⟨_, _, _, e⟩ := x; exact Heap.lt_size e
  | frz ob u => obtain ⟨e, _⟩ := x; exact Heap.lt_size e
  | tbl ps => exact Heap.lt_size (show h.get? a = some _ from x)
  | met f y => exact Heap.lt_size (show h.get? a = some _ from x)
  | ext φ => obtain ⟨_, ⟨_, e⟩, _⟩ := x; exact Heap.lt_size e
theorem Paired.mapP {α β : Type} {F G : α → β → Prop} : ∀ {l₁ : List α} {l₂ : List β}, Paired F l₁ l₂ → (∀ a b, F a b → G a b) → Paired G l₁ l₂
  | _, _, .nil, _ => .nil
  | _, _, .cons r t, f => .cons (f _ _ r) (Paired.mapP t f)
theorem ObjOk.stay (x : ObjOk P w H h a o) (k : ∀ b u, (b = a ∨ H b = some (.own a)) → h.get? b = some u → h'.get? b = some u)
    (ho : ∀ b, H b = some (.own a) → H' b = some (.own a)) (ht : ∀ b xs, H b = some (.tup xs) → H' b = some (.tup xs)) : ObjOk P w H' h' a o := by
  induction o with
  | lst xs => obtain ⟨z, its, n, r, e⟩ := x; exact ⟨z, its, n, r, k _ _ (.inl rfl) e⟩
  | tup xs => obtain ⟨z, its, r, ob, e, c⟩ := x; exact ⟨z, its, r, ob, k _ _ (.inl rfl) e, c⟩
  | dK kvs => obtain ⟨z, y, vs, r, ob, es, ep, e, c⟩ := x; exact ⟨z, y, vs, r, ob, es, ep, k _ _ (.inl rfl) e, c⟩
  | dT kvs =>
    obtain ⟨z, y, xs, r, ob, es, ep, e, c⟩ := x
    exact ⟨z, y, xs, Paired.mapP r fun p q z => ⟨z.1, ht _ _ z.2.1, z.2.2⟩, ob, es, ep, k _ _ (.inl rfl) e, c⟩
  | set S n => obtain ⟨ob, es, ep, t, e, c⟩ := x; exact ⟨ob, es, ep, t, k _ _ (.inl rfl) e, c⟩
  | ins C dx fs =>
    obtain ⟨d, z, ne, e, mA, ⟨od, es, ep, e2, c⟩, r⟩ := x
    exact ⟨ho _ d, z, ne, k _ _ (.inl rfl) e, mA, ⟨od, es, ep, k _ _ (.inr d) e2, c⟩, r⟩
  | own y => obtain ⟨ob, e⟩ := x; exact ⟨ob, k _ _ (.inl rfl) e⟩
  | xd fs => obtain ⟨mA, ⟨od, es, ep, e, c⟩, r⟩ := x; exact ⟨mA, ⟨od, es, ep, k _ _ (.inl rfl) e, c⟩, r⟩
  | rng lo hi => obtain ⟨t, u, v, e⟩ := x; exact ⟨t, u, v, k _ _ (.inl rfl) e⟩
  | frz ob u ih => obtain ⟨e, q⟩ := x; exact ⟨k _ _ (.inl rfl) e, ih q⟩
  | tbl ps =>
    have e : h.get? a = some { cls := .none, data := .fields ps } := x
    show h'.get? a = some { cls := .none, data := .fields ps }
    exact k a _ (.inl rfl) e
  | met f y =>
    have e : h.get? a = some (PySem.W.methodObj (.ref f) (.ref y)) := x
    show h'.get? a = some (PySem.W.methodObj (.ref f) (.ref y))
    exact k a _ (.inl rfl) e
  | ext φ => obtain ⟨p, ⟨o, e⟩, st⟩ := x; exact ⟨st _ _ p fun o q => k _ _ (.inl rfl) q, ⟨o, k _ _ (.inl rfl) e⟩, st⟩
theorem HOk.lt (x : HOk P w H h) (e : H a = some o) : a < h.objs.size := (x a o e).lt
theorem HOk.fresh (x : HOk P w H h) (e : h.objs.size ≤ a) : H a = none := by
  cases q : H a with
  | none => rfl
  | some u => exact absurd (Nat.lt_of_lt_of_le (x.lt q) e) (Nat.lt_irrefl _)
theorem HOk.kept (x : HOk P w H h) (k : ∀ b u, h.get? b = some u → h'.get? b = some u) : HOk P w H h' := fun a o e =>
  (x a o e).stay (fun b u _ q => k b u q) (fun _ q => q) fun _ _ q => q
theorem HOk.laid (x : HOk P w H h) (k : ∀ b u, h.get? b = some u → h'.get? b = some u) (hp : h.objs.size ≤ a) (new : ObjOk P w (upd H a o) h' a o) : HOk P w (upd H a o) h' := fun b u e => by
  have hn := x.fresh hp
  by_cases hb : b = a
  · subst hb; rw [upd_same] at e; cases e; exact new
  · rw [upd_ne hb] at e
    exact (x b u e).stay (fun c v _ q => k c v q) (fun c q => by rw [upd_ne (ne_of_none q hn)]; exact q) fun c xs q => by rw [upd_ne (ne_of_none q hn)]; exact q
end

def Rd (H : Hp) (a : Addr) (u : HO) : Prop := H a = some u ∨ ∃ o, H a = some (.frz o u)
theorem Rd.ok {P : Program} {w : World} {H : Hp} {h : Heap} {a : Addr} {u : HO} (r : Rd H a u) (x : HOk P w H h) : ObjOk P w H h a u := by
  rcases r with r | ⟨o, r⟩
  · exact x a u r
  · obtain ⟨_, q⟩ := x a _ r
    exact q
def Mut : Option HO → Prop
  | some (.lst _) => True
  | some (.dK _) => True
  | some (.dT _) => True
  | some (.set _ _) => True
  | some (.ins _ _ _) => True
  | some (.ext _) => True
  | _ => False
section
variable {P : Program} {w : World} {H : Hp} {h h' : Heap} {x e : Addr} {o' : HO}
theorem HOk.write (ok : HOk P w H h) (mu : Mut (H x)) (he : e = x ∨ H e = some (.own x)) (k : ∀ b u, b ≠ e → h.get? b = some u → h'.get? b = some u) (heo : ∃ u, h'.get? e = some u)
    (new : ObjOk P w (upd H x o') h' x o') : HOk P w (upd H x o') h' := fun b u q => by
  have nown : ∀ c y, H c = some (.own y) → c ≠ x := fun c y r z => by subst z; rw [r] at mu; exact mu
  have ntup : ∀ c xs, H c = some (.tup xs) → c ≠ x := fun c xs r z => by subst z; rw [r] at mu; exact mu
  by_cases hb : b = x
  · subst hb; rw [upd_same] at q; cases q; exact new
  · rw [upd_ne hb] at q
    by_cases hbe : b = e
    · have q' : H b = some (.own x) := by
        rcases he with z | z
        · exact absurd (hbe.trans z) hb
        · rw [hbe]; exact z
      rw [q] at q'; cases q'
      obtain ⟨v, hv⟩ := heo
      exact ⟨v, by rw [hbe]; exact hv⟩
    · refine (ok b u q).stay (fun c v hc r => k c v ?_ r) (fun c r => by rw [upd_ne (nown c b r)]; exact r) fun c xs r => by rw [upd_ne (ntup c xs r)]; exact r
      rcases hc with rfl | hc
      · exact hbe
      · rintro rfl
        rcases he with z | z
        · exact nown c b hc z
        · rw [hc] at z; cases z; exact hb rfl
end

/-! ### kept unless tracked; of the frames at fs (the callers') the slots may change (an exception that passes writes there); of the records at ex (iterators) nothing is said -/
structure Un (fs ex : List Addr) (H H' : Hp) (h h' : Heap) : Prop where
  keep : ∀ b o, h.get? b = some o → H b = none → b ∉ fs → b ∉ ex → h'.get? b = some o
  slot : ∀ b o, h.get? b = some o → H b = none → b ∈ fs → b ∉ ex → ∃ sl, h'.get? b = some { o with slots := sl }
  free : ∀ b o, h.get? b = some o → H b = none → b ∉ ex → H' b = none
  there : ∀ b o, h.get? b = some o → b ∉ ex → ∃ o', h'.get? b = some o'
  tups : ∀ b xs, H b = some (.tup xs) → H' b = some (.tup xs)
  frzs : ∀ b o u, H b = some (.frz o u) → H' b = some (.frz o u)
  tbls : ∀ b ps, H b = some (.tbl ps) → ∃ more, H' b = some (.tbl (ps ++ more))
section
variable {fs fs' ex ex' : List Addr} {H H1 H2 : Hp} {h h1 h2 h' : Heap} {a x e : Addr} {o : HO}
theorem Un.any (u : Un fs ex H H1 h h1) {b : Addr} {ob : Obj} (q : h.get? b = some ob) (n : H b = none) (hx : b ∉ ex) : ∃ sl, h1.get? b = some { ob with slots := sl } := by
  by_cases hb : b ∈ fs
  · exact u.slot b ob q n hb hx
  · exact ⟨ob.slots, u.keep b ob q n hb hx⟩
theorem Un.kept (k : ∀ b u, h.get? b = some u → h'.get? b = some u) : Un fs ex H H h h' :=
  ⟨fun b ob q _ _ _ => k b ob q, fun b ob q _ _ _ => ⟨ob.slots, k b ob q⟩, fun _ _ _ n _ => n, fun b ob q _ => ⟨ob, k b ob q⟩, fun _ _ q => q, fun _ _ _ q => q, fun _ ps q => ⟨#[], by rw [q]; simp⟩⟩
theorem Un.refl : Un fs ex H H h h := Un.kept fun _ _ q => q
theorem Un.laid (k : ∀ b u, h.get? b = some u → h'.get? b = some u) (hp : h.objs.size ≤ a) (hn : H a = none) : Un fs ex H (upd H a o) h h' where
  keep := fun b u q _ _ _ => k b u q
  slot := fun b u q _ _ _ => ⟨u.slots, k b u q⟩
  free := fun b u q n _ => by rw [upd_ne (Nat.ne_of_lt (Nat.lt_of_lt_of_le (Heap.lt_size q) hp))]; exact n
  there := fun b u q _ => ⟨u, k b u q⟩
  tups := fun b xs q => by rw [upd_ne (ne_of_none q hn)]; exact q
  frzs := fun b u xs q => by rw [upd_ne (ne_of_none q hn)]; exact q
  tbls := fun b ps q => ⟨#[], by rw [upd_ne (ne_of_none q hn), q]; simp⟩
theorem Un.write (mu : Mut (H x)) (he : e = x ∨ H e = some (.own x)) (k : ∀ b u, b ≠ e → h.get? b = some u → h'.get? b = some u) (heo : ∃ u, h'.get? e = some u) : Un fs ex H (upd H x o) h h' := by
  have hx : ∀ b, H b = none → b ≠ x := fun b n z => by subst z; rw [n] at mu; exact mu
  have hb : ∀ b, H b = none → b ≠ e := fun b n z => by
    subst z
    rcases he with r | r
    · exact hx b n r
    · rw [n] at r; cases r
  have hm : ∀ b u, H b = some u → ¬ Mut (some u) → b ≠ x := fun b u q nm z => by subst z; rw [q] at mu; exact nm mu
  refine ⟨fun b u q n _ _ => k b u (hb b n) q, fun b u q n _ _ => ⟨u.slots, k b u (hb b n) q⟩, fun b u q n _ => by rw [upd_ne (hx b n)]; exact n, fun b u q _ => ?_,
    fun b xs q => by rw [upd_ne (hm b _ q fun z => z)]; exact q, fun b u xs q => by rw [upd_ne (hm b _ q fun z => z)]; exact q, fun b ps q => ⟨#[], by rw [upd_ne (hm b _ q fun z => z), q]; simp⟩⟩
  by_cases hbe : b = e
  · subst hbe; exact heo
  · exact ⟨u, k b u hbe q⟩
end

/-! ### the heap without what is tracked -/
def trk (h : Heap) (H : Hp) : List Addr := (List.range h.objs.size).filter fun a => (H a).isSome
def hidT (h : Heap) (H : Hp) : Heap := PySem.W.hideAll h (trk h H)
theorem hidT_size (h : Heap) (H : Hp) : (hidT h H).objs.size = h.objs.size := PySem.W.hideAll_size _ _
theorem hidT_get {h : Heap} {H : Hp} {b : Addr} {o : Obj} (e : h.get? b = some o) (n : H b = none) : (hidT h H).get? b = some o :=
  PySem.W.hideAll_get _ e fun hm => by
    have q : (H b).isSome = true := (List.mem_filter.mp hm).2
    rw [n] at q; simp at q
theorem of_hidT {h : Heap} {H : Hp} {b : Addr} {o : Obj} (e : (hidT h H).get? b = some o) : h.get? b = some o ∧ H b = none := by
  have e' : h.get? b = some o := PySem.W.of_hideAll (trk h H) e
  refine ⟨e', ?_⟩
  cases q : H b with
  | none => rfl
  | some x =>
    have hm : b ∈ trk h H := List.mem_filter.mpr ⟨List.mem_range.mpr (Heap.lt_size e'), by simp [q]⟩
    have z : (hidT h H).get? b = none := PySem.W.hideAll_none (trk h H) hm
    rw [z] at e; cases e

/-! ### OpenK's ledger, filled with every new object but one -/
end L2

namespace L2
open PySem PySem.Spec PyProof.Rows

structure Mod (K : PySem.W.Frag) (mg : Str → Option Value) (base : Heap) : Prop where
  kin : K.In base
  glob : base.Ns mainGlobals mg
  blt : ∃ mb, base.Ns builtinsNs mb ∧ ∀ x : Str, x ≠ "__name__" → mb x = bootBuiltins x
  nolimit : base.NoLimit

/-- the context: a def's body (or a comprehension's block) running. base: fixed through the whole law; s₀, H₀: the entry; outer: the frames whose slots others may change (a def's callers); stack: all frames that run;
   ex: iterators that were made ahead of the entry and are walked here (a comprehension's); fn: the names whose cells were made at the entry (a def: all; a comprehension's block: its own); calm: not within an except suite; pn: pins that every state bears; xe: what is wanted of an exception that leaves the code -/
structure Cx where
  prog : Program
  w : World
  K : PySem.W.Frag
  mg : Str → Option Value
  base : Heap
  A : Around
  N : List Str
  s₀ : Shared
  H₀ : Hp
  env : Env
  outer : List Env
  stack : List Env
  ex : List Addr
  fn : Str → Bool
  calm : Bool
  pn : List (Addr × Obj)
  xe : Value → Shared → Prop
def frs (l : List Env) : List Addr := l.filterMap (·.frame)
abbrev Cx.fs (X : Cx) : List Addr := frs X.outer

def Vis (sc : Scope) (x : Str) : Prop := sc.names.lookup x = some .local ∨ sc.names.lookup x = some .cell ∨ sc.names.lookup x = some .free
def Loc (sc : Scope) (x : Str) : Prop := sc.names.lookup x = some .local ∨ sc.names.lookup x = some .cell
def Look (env : Env) (h : Heap) (m : Str → Option Value) (x : Str) (u : Value) : Prop :=
  (env.kindOf x = some .local ∧ m x = some u) ∨ ((env.kindOf x = some .cell ∨ env.kindOf x = some .free) ∧ ∃ c, env.cells.lookup x = some c ∧ h.IsCell c (some u))

structure Cx.Ok (X : Cx) : Prop where
  mod : Mod X.K X.mg X.base
  kind : X.env.scope.kind = .function
  glob : X.env.globals = mainGlobals
  blt : X.env.builtins = builtinsNs
  above : X.s₀.heap.objs.size ≤ X.env.locals
  inj : ∀ x y c, X.env.cells.lookup x = some c → X.env.cells.lookup y = some c → x = y
  has : ∀ x, (X.env.kindOf x = some .cell ∨ X.env.kindOf x = some .free) → ∃ c, X.env.cells.lookup x = some c
  cab : ∀ x c, X.fn x = true → X.env.cells.lookup x = some c → X.s₀.heap.objs.size ≤ c
  hd : X.calm = true → X.A.handled = none
  frames : X.A.frames = some X.stack
  stk : X.stack = X.outer ∨ (X.stack = X.env :: X.outer ∧ X.env.frame = some X.env.locals)
  exf : ∀ b ∈ X.ex, b ≠ X.env.locals ∧ ∀ x c, X.env.cells.lookup x = some c → c ≠ b
  bs : ∀ b o, X.base.get? b = some o → X.s₀.heap.get? b = some o ∧ X.H₀ b = none
  bsz : X.base.objs.size ≤ X.s₀.heap.objs.size
  noex : ∀ b o, X.base.get? b = some o → b ∉ X.ex
  exfs : ∀ b ∈ X.ex, b ∉ X.fs
  funs : X.s₀.heap.FunFrames X.base X.outer
  frf : ∀ b ∈ X.fs, X.H₀ b = none

structure Inv (X : Cx) (pins : List (Addr × Obj)) (σ : List (Option V)) (H : Hp) (s : Shared) : Prop where
  ok : X.Ok
  os : s.os = X.s₀.os
  bare : AllBare s.gens
  base : Un X.fs X.ex X.H₀ H X.s₀.heap s.heap
  loc : ∃ m, s.heap.Ns X.env.locals m ∧ ∀ (i : Nat) (x : Str) (v : V), X.N[i]? = some x → σ[i]? = some (some v) → Vis X.env.scope x → ∃ u, RelV v u ∧ Look X.env s.heap m x u
  cell : ∀ x c, X.env.cells.lookup x = some c → ∃ v, s.heap.IsCell c v
  free : H X.env.locals = none
  freeC : ∀ x c, X.env.cells.lookup x = some c → H c = none
  pin : ∀ p ∈ X.pn ++ pins, s.heap.get? p.1 = some p.2 ∧ H p.1 = none ∧ p.1 ≠ X.env.locals ∧ p.1 ∉ X.fs ∧ ∀ v, p.2.data ≠ .cell v
  hok : HOk X.prog X.w H s.heap
  len : σ.length = X.N.length

section
variable {X : Cx} {pins : List (Addr × Obj)} {σ : List (Option V)} {H H' : Hp} {s : Shared} {h' : Heap}

theorem Cx.Ok.nofr (ok : X.Ok) {b : Addr} {o : Obj} (e : X.base.get? b = some o) : b ∉ X.fs := fun hb => by
  have := (ok.funs.mem hb).1
  rw [e] at this; cases this
theorem Inv.bs (I : Inv X pins σ H s) : ∀ b o, X.base.get? b = some o → s.heap.get? b = some o ∧ H b = none := fun b o e =>
  ⟨I.base.keep b o (I.ok.bs b o e).1 (I.ok.bs b o e).2 (I.ok.nofr e) (I.ok.noex b o e), I.base.free b o (I.ok.bs b o e).1 (I.ok.bs b o e).2 (I.ok.noex b o e)⟩
theorem Inv.bk (I : Inv X pins σ H s) : ∀ b o, X.base.get? b = some o → s.heap.get? b = some o := fun b o e => (I.bs b o e).1
theorem Inv.mod (I : Inv X pins σ H s) : Mod X.K X.mg X.base := I.ok.mod
theorem Inv.kIn (I : Inv X pins σ H s) : X.K.In s.heap := I.ok.mod.kin.keeps I.bk
theorem Inv.lt (I : Inv X pins σ H s) : X.env.locals < s.heap.objs.size := let ⟨_, hn, _⟩ := I.loc; hn.lt
theorem Inv.sz (I : Inv X pins σ H s) : X.s₀.heap.objs.size ≤ s.heap.objs.size := Nat.le_trans I.ok.above (Nat.le_of_lt I.lt)
theorem Inv.nofs (I : Inv X pins σ H s) {a : Addr} (h : s.heap.objs.size ≤ a) : a ∉ X.fs := fun hb => by
  obtain ⟨_, o, ho, _⟩ := I.ok.funs.mem hb
  exact absurd (Nat.lt_of_lt_of_le (Heap.lt_size ho) (Nat.le_trans I.sz h)) (Nat.lt_irrefl _)
theorem Inv.cne (I : Inv X pins σ H s) : ∀ x c, X.env.cells.lookup x = some c → c ≠ X.env.locals := fun x c e z => by
  obtain ⟨v, o, ho, hd⟩ := I.cell x c e
  obtain ⟨m, ⟨o', es, ep, ho', hd', _⟩, _⟩ := I.loc
  rw [z, ho'] at ho; cases ho; rw [hd'] at hd; cases hd
theorem Inv.funs (I : Inv X pins σ H s) : s.heap.FunFrames X.base X.outer := by
  have all : ∀ (l : List Env), (∀ b ∈ frs l, b ∈ X.fs) → X.s₀.heap.FunFrames X.base l → s.heap.FunFrames X.base l := by
    intro l
    induction l with
    | nil => intro _ _; trivial
    | cons env r ih =>
      intro hs hl
      obtain ⟨hk, ⟨L, o, hf, hn, ho, hd⟩, hr⟩ := hl
      have hL : L ∈ X.fs := hs L (by unfold frs; rw [List.filterMap_cons, hf]; exact List.mem_cons_self)
      obtain ⟨sl, e⟩ := I.base.slot L o ho (I.ok.frf L hL) hL fun z => I.ok.exfs L z hL
      exact ⟨hk, ⟨L, _, hf, hn, e, hd⟩, ih (fun b hb => hs b (by unfold frs; rw [List.filterMap_cons, hf]; exact List.mem_cons_of_mem _ hb)) hr⟩
  exact all X.outer (fun _ hb => hb) I.ok.funs

theorem Inv.stack (I : Inv X pins σ H s) : s.heap.FunFrames X.base X.stack := by
  rcases I.ok.stk with e | ⟨e, hf⟩
  · rw [e]; exact I.funs
  · rw [e]
    obtain ⟨m, hn, _⟩ := I.loc
    refine .cons (by rw [I.ok.kind]; decide) hf hn ?_ I.funs
    exact Heap.get?_none_of_le (Nat.le_trans I.ok.bsz I.ok.above)
theorem Inv.stkSub (I : Inv X pins σ H s) : ∀ b ∈ frs X.stack, b ∈ X.env.locals :: X.fs := fun b hb => by
  rcases I.ok.stk with e | ⟨e, hf⟩
  · rw [e] at hb; exact List.mem_cons_of_mem _ hb
  · rw [e] at hb
    unfold frs at hb
    rw [List.filterMap_cons, hf] at hb
    exact hb
theorem Inv.stkFree (I : Inv X pins σ H s) : ∀ b ∈ frs X.stack, H b = none := fun b hb => by
  rcases List.mem_cons.mp (I.stkSub b hb) with e | hb
  · rw [e]; exact I.free
  · obtain ⟨_, o, ho, _⟩ := I.ok.funs.mem hb
    exact I.base.free b o ho (I.ok.frf b hb) fun z => I.ok.exfs b z hb

theorem Inv.step {g' : Array GenState} {t' : Nat} {d' : Drawn} {ch : List Addr} (I : Inv X pins σ H s)
    (hch : ∀ b ∈ ch, (b ∈ X.ex ∨ X.s₀.heap.objs.size ≤ b) ∧ b ≠ X.env.locals ∧ (∀ x c, X.env.cells.lookup x = some c → c ≠ b) ∧ ∀ p ∈ X.pn ++ pins, p.1 ≠ b)
    (keep : ∀ b o, b ≠ X.env.locals → b ∉ X.fs → b ∉ ch → s.heap.get? b = some o → H b = none → h'.get? b = some o)
    (slot : ∀ b o, b ≠ X.env.locals → b ∈ X.fs → b ∉ ch → s.heap.get? b = some o → H b = none → ∃ sl, h'.get? b = some { o with slots := sl }) (free : ∀ b o, b ∉ ch → s.heap.get? b = some o → H b = none → H' b = none)
    (there : ∀ b o, b ∉ ch → s.heap.get? b = some o → ∃ o', h'.get? b = some o')
    (tups : ∀ b xs, H b = some (.tup xs) → H' b = some (.tup xs)) (frzs : ∀ b o u, H b = some (.frz o u) → H' b = some (.frz o u)) (tbls : ∀ b ps, H b = some (.tbl ps) → ∃ more, H' b = some (.tbl (ps ++ more)))
    (ns : ∀ m, s.heap.Ns X.env.locals m → h'.Ns X.env.locals m) (hok : HOk X.prog X.w H' h') (hg : AllBare g') :
    Inv X pins σ H' { s with heap := h', gens := g', drawn := d', toks := t' } := by
  have neL : ∀ b o, X.s₀.heap.get? b = some o → b ≠ X.env.locals := fun b o e => Nat.ne_of_lt (Nat.lt_of_lt_of_le (Heap.lt_size e) I.ok.above)
  have neC : ∀ b o, X.s₀.heap.get? b = some o → b ∉ X.ex → b ∉ ch := fun b o e hx hb => by
    rcases (hch b hb).1 with z | z
    · exact hx z
    · exact absurd (Nat.lt_of_lt_of_le (Heap.lt_size e) z) (Nat.lt_irrefl _)
  have cellK : ∀ x c, X.env.cells.lookup x = some c → ∀ v, s.heap.IsCell c v → h'.IsCell c v := fun x c e v ⟨o, ho, hd⟩ => by
    have nch : c ∉ ch := fun z => (hch c z).2.2.1 x c e rfl
    by_cases hc : c ∈ X.fs
    · obtain ⟨sl, q⟩ := slot c o (I.cne x c e) hc nch ho (I.freeC x c e)
      exact ⟨_, q, hd⟩
    · exact ⟨o, keep c o (I.cne x c e) hc nch ho (I.freeC x c e), hd⟩
  refine ⟨I.ok, I.os, hg, ⟨fun b o e n hb hx => ?_, fun b o e n hb hx => ?_, fun b o e n hx => ?_, fun b o e hx => ?_, fun b xs e => tups b xs (I.base.tups b xs e), fun b o xs e => frzs b o xs (I.base.frzs b o xs e), fun b ps e => ?_⟩, ?_, fun x c e => ?_, ?_, fun x c e => ?_, fun p hp => ?_, hok, I.len⟩
  · exact keep b o (neL b o e) hb (neC b o e hx) (I.base.keep b o e n hb hx) (I.base.free b o e n hx)
  · obtain ⟨sl, e1⟩ := I.base.slot b o e n hb hx
    obtain ⟨sl', e2⟩ := slot b _ (neL b o e) hb (neC b o e hx) e1 (I.base.free b o e n hx)
    exact ⟨sl', e2⟩
  · obtain ⟨o', e1⟩ := I.base.there b o e hx
    exact free b o' (neC b o e hx) e1 (I.base.free b o e n hx)
  · obtain ⟨o', e1⟩ := I.base.there b o e hx
    exact there b o' (neC b o e hx) e1
  · obtain ⟨m1, e1⟩ := I.base.tbls b ps e
    obtain ⟨m2, e2⟩ := tbls b _ e1
    exact ⟨m1 ++ m2, by rw [e2, Array.append_assoc]⟩
  · obtain ⟨m, hn, hl⟩ := I.loc
    refine ⟨m, ns m hn, fun i x v e1 e2 e3 => ?_⟩
    obtain ⟨u, r, l⟩ := hl i x v e1 e2 e3
    refine ⟨u, r, ?_⟩
    rcases l with l | ⟨k, c, e, z⟩
    · exact .inl l
    · exact .inr ⟨k, c, e, cellK x c e _ z⟩
  · obtain ⟨v, z⟩ := I.cell x c e
    exact ⟨v, cellK x c e v z⟩
  · obtain ⟨m, ⟨o, _, _, ho, _⟩, _⟩ := I.loc
    exact free _ o (fun z => (hch _ z).2.1 rfl) ho I.free
  · obtain ⟨v, o, ho, hd⟩ := I.cell x c e
    exact free c o (fun z => (hch c z).2.2.1 x c e rfl) ho (I.freeC x c e)
  · obtain ⟨e, n, ne, nf, d⟩ := I.pin p hp
    have nch : p.1 ∉ ch := fun z => (hch p.1 z).2.2.2 p hp rfl
    exact ⟨keep p.1 p.2 ne nf nch e n, free p.1 p.2 nch e n, ne, nf, d⟩
theorem Inv.un {t' : Nat} (I : Inv X pins σ H s) (u : Un X.fs [] H H' s.heap h') (hok : HOk X.prog X.w H' h') : Inv X pins σ H' { s with heap := h', toks := t' } := by
  obtain ⟨m, ⟨o, es, ep, ho, r⟩, _⟩ := id I.loc
  obtain ⟨sl, hL⟩ := u.any ho I.free (by simp)
  exact I.step (g' := s.gens) (d' := s.drawn) (ch := []) (fun _ z => nomatch z) (fun b o _ hb _ e n => u.keep b o e n hb (by simp)) (fun b o _ hb _ e n => u.slot b o e n hb (by simp)) (fun b o _ e n => u.free b o e n (by simp)) (fun b o _ e => u.there b o e (by simp)) u.tups u.frzs u.tbls (fun m' hm => by
    obtain ⟨o', es', ep', ho', r'⟩ := hm
    rw [ho] at ho'; cases ho'
    exact ⟨_, es', ep', hL, r'⟩) hok I.bare
theorem Inv.call {g' : Array GenState} {t' : Nat} {d' : Drawn} {ch : List Addr} (I : Inv X pins σ H s) (u : Un (frs X.stack) ch H H' s.heap h') (hok : HOk X.prog X.w H' h') (hg : AllBare g')
    (hch : ∀ b ∈ ch, (b ∈ X.ex ∨ X.s₀.heap.objs.size ≤ b) ∧ b ≠ X.env.locals ∧ (∀ x c, X.env.cells.lookup x = some c → c ≠ b) ∧ ∀ p ∈ X.pn ++ pins, p.1 ≠ b) :
    Inv X pins σ H' { s with heap := h', gens := g', drawn := d', toks := t' } := by
  obtain ⟨m, ⟨o, es, ep, ho, r⟩, _⟩ := id I.loc
  obtain ⟨sl, hL⟩ := u.any ho I.free fun z => (hch _ z).2.1 rfl
  exact I.step (ch := ch) hch (fun b o hL hb hc e n => u.keep b o e n (fun z => (List.mem_cons.mp (I.stkSub b z)).elim hL hb) hc) (fun b o _ _ hc e n => u.any e n hc) (fun b o hc e n => u.free b o e n hc) (fun b o hc e => u.there b o e hc) u.tups u.frzs u.tbls (fun m' hm => by
    obtain ⟨o', es', ep', ho', r'⟩ := hm
    rw [ho] at ho'; cases ho'
    exact ⟨_, es', ep', hL, r'⟩) hok hg
theorem Inv.turned {t' : Nat} {it : Addr} (I : Inv X pins σ H s) (k : ∀ b o, b ≠ it → s.heap.get? b = some o → h'.get? b = some o) (hn : H it = none) (hL : it ≠ X.env.locals)
    (h1 : it ∈ X.ex ∨ X.s₀.heap.objs.size ≤ it) (h2 : ∀ x c, X.env.cells.lookup x = some c → c ≠ it) (h3 : ∀ p ∈ X.pn ++ pins, p.1 ≠ it) : Inv X pins σ H { s with heap := h', toks := t' } := by
  have nit : ∀ b u, H b = some u → b ≠ it := fun b u e z => by rw [z, hn] at e; cases e
  refine I.step (g' := s.gens) (d' := s.drawn) (ch := [it]) (fun b hb => ?_) (fun b o _ _ hc e _ => k b o (fun z => hc (by simp [z])) e) (fun b o _ _ hc e _ => ⟨o.slots, k b o (fun z => hc (by simp [z])) e⟩) (fun _ _ _ _ n => n)
    (fun b o hc e => ⟨o, k b o (fun z => hc (by simp [z])) e⟩) (fun _ _ e => e) (fun _ _ _ e => e) (fun b ps e => ⟨#[], by rw [e]; simp⟩) (fun m hm => ?_) (fun b u e => ?_) I.bare
  · have e : b = it := by simpa using hb
    subst e
    exact ⟨h1, hL, h2, h3⟩
  · obtain ⟨o, es, ep, ho, r⟩ := hm
    exact ⟨o, es, ep, k _ o (Ne.symm hL) ho, r⟩
  · refine (I.hok b u e).stay (fun c v hc q => k c v ?_ q) (fun _ q => q) fun _ _ q => q
    rcases hc with z | z
    · rw [z]; exact nit b u e
    · exact nit c _ z
theorem Inv.tok (I : Inv X pins σ H s) (t : Nat) : Inv X pins σ H { s with toks := t } := I.un (h' := s.heap) (t' := t) Un.refl I.hok
theorem Inv.kept {t' : Nat} (I : Inv X pins σ H s) (k : ∀ b u, s.heap.get? b = some u → h'.get? b = some u) : Inv X pins σ H { s with heap := h', toks := t' } := I.un (Un.kept k) (I.hok.kept k)
theorem Inv.laid {a : Addr} {o : HO} {t' : Nat} (I : Inv X pins σ H s) (k : ∀ b u, s.heap.get? b = some u → h'.get? b = some u) (hp : s.heap.objs.size ≤ a) (new : ObjOk X.prog X.w (upd H a o) h' a o) :
    Inv X pins σ (upd H a o) { s with heap := h', toks := t' } := I.un (Un.laid k hp (I.hok.fresh hp)) (I.hok.laid k hp new)
theorem Inv.write {x e : Addr} {o : HO} {t' : Nat} (I : Inv X pins σ H s) (mu : Mut (H x)) (he : e = x ∨ H e = some (.own x)) (k : ∀ b u, b ≠ e → s.heap.get? b = some u → h'.get? b = some u) (heo : ∃ u, h'.get? e = some u)
    (new : ObjOk X.prog X.w (upd H x o) h' x o) : Inv X pins σ (upd H x o) { s with heap := h', toks := t' } := I.un (Un.write mu he k heo) (I.hok.write mu he k heo new)
theorem Inv.pins_of {pins' : List (Addr × Obj)} (I : Inv X pins σ H s) (h : ∀ p ∈ pins', s.heap.get? p.1 = some p.2 ∧ H p.1 = none ∧ p.1 ≠ X.env.locals ∧ p.1 ∉ X.fs ∧ ∀ v, p.2.data ≠ .cell v) : Inv X pins' σ H s :=
  ⟨I.ok, I.os, I.bare, I.base, I.loc, I.cell, I.free, I.freeC, fun p hp => (List.mem_append.mp hp).elim (fun z => I.pin p (List.mem_append_left _ z)) (h p), I.hok, I.len⟩

theorem nodup_ix {N : List Str} (hN : N.Nodup) {i j : Nat} {x : Str} (a : N[i]? = some x) (b : N[j]? = some x) : i = j := by
  obtain ⟨h1, e1⟩ := List.getElem?_eq_some_iff.mp a
  obtain ⟨h2, e2⟩ := List.getElem?_eq_some_iff.mp b
  exact (List.getElem_inj hN).mp (e1.trans e2.symm)

theorem store_ok2 {M : Model} {A : Around} {E : Value → Shared → Prop} {i : Nat} {x : Str} {v : V} {u : Value} {Q : Unit → Shared → Prop} (I : Inv X pins σ H s) (hN : X.N.Nodup) (hi : X.N[i]? = some x) (hx : Loc X.env.scope x) (r : RelV v u)
    (h : ∀ s', Inv X pins (σ.set i (some v)) H s' → (∃ a, Heap.SameBut a s.heap s'.heap ∧ (a = X.env.locals ∨ X.env.cells.lookup x = some a)) → Q () s') (hf : X.fn x = true ∨ X.env.scope.names.lookup x = some .local := by first | exact .inl rfl | exact .inr rfl | assumption) : wpAny M A (storeName X.env x u) Q E s := by
  obtain ⟨m, hn, hl⟩ := id I.loc
  have hcls : (X.env.scope.kind == .class || (X.env.scope.kind == .module && X.env.locals != X.env.globals)) = false := by rw [I.ok.kind]; rfl
  have hiσ : i < σ.length := by rw [I.len]; exact (List.getElem?_eq_some_iff.mp hi).1
  have cne := I.cne
  have tracked : ∀ {a : Addr} {h' : Heap}, (∃ o, s.heap.get? a = some o ∧ H a = none) → Heap.SameBut a s.heap h' → HOk X.prog X.w H h' := fun {a h'} ha hs b ob e => by
    obtain ⟨_, _, hfree⟩ := ha
    refine (I.hok b ob e).stay (fun c w' hc q => (hs.2 c ?_).trans q) (fun _ q => q) fun _ _ q => q
    rintro rfl
    rcases hc with rfl | hc
    · rw [hfree] at e; cases e
    · rw [hfree] at hc; cases hc
  rcases hx with hk | hk
  · refine wpAny_storeName_local hk hn (fun h' hn' hs => ?_) hcls
    obtain ⟨oL, _, _, hoL, _⟩ := id hn
    refine h _ ⟨I.ok, I.os, I.bare, ⟨fun b o e n hb hx => ?_, fun b o e n hb hx => ?_, I.base.free, fun b o e hx => ?_, I.base.tups, I.base.frzs, I.base.tbls⟩, ⟨_, hn', fun j y v' e1 e2 e3 => ?_⟩, fun y c e => ?_, I.free, I.freeC, fun p hp => ?_, tracked ⟨oL, hoL, I.free⟩ hs, by simpa using I.len⟩ ⟨_, hs, .inl rfl⟩
    · exact (hs.2 b (Nat.ne_of_lt (Nat.lt_of_lt_of_le (Heap.lt_size e) I.ok.above))).trans (I.base.keep b o e n hb hx)
    · obtain ⟨sl, e1⟩ := I.base.slot b o e n hb hx
      exact ⟨sl, (hs.2 b (Nat.ne_of_lt (Nat.lt_of_lt_of_le (Heap.lt_size e) I.ok.above))).trans e1⟩
    · obtain ⟨o', e1⟩ := I.base.there b o e hx
      exact ⟨o', (hs.2 b (Nat.ne_of_lt (Nat.lt_of_lt_of_le (Heap.lt_size e) I.ok.above))).trans e1⟩
    · by_cases hj : j = i
      · subst hj
        rw [hi] at e1; cases e1
        rw [List.getElem?_set_self hiσ] at e2
        cases e2
        exact ⟨u, r, .inl ⟨hk, by simp⟩⟩
      · rw [List.getElem?_set_ne (Ne.symm hj)] at e2
        obtain ⟨u', r', q⟩ := hl j y v' e1 e2 e3
        refine ⟨u', r', ?_⟩
        rcases q with ⟨k, e⟩ | ⟨k, c, e, z⟩
        · refine .inl ⟨k, ?_⟩
          have : y ≠ x := fun e => hj (nodup_ix hN e1 (e ▸ hi))
          simp [this, e]
        · exact .inr ⟨k, c, e, z.sameBut hs (cne y c e)⟩
    · obtain ⟨w', z⟩ := I.cell y c e
      exact ⟨w', z.sameBut hs (cne y c e)⟩
    · obtain ⟨e, n, ne, nf, d⟩ := I.pin p hp
      exact ⟨(hs.2 p.1 ne).trans e, n, ne, nf, d⟩
  · have hfn : X.fn x = true := by
      rcases hf with z | z
      · exact z
      · rw [z] at hk; cases hk
    obtain ⟨c, hc⟩ := I.ok.has x (.inl hk)
    obtain ⟨w', z⟩ := I.cell x c hc
    refine wpAny_storeName_cell I.ok.kind hk hc z (fun h' hc' hs => ?_)
    obtain ⟨oc, hoc, hocd⟩ := id z
    refine h { s with heap := h' } ⟨I.ok, I.os, I.bare, ⟨fun b o e n hb hx => ?_, fun b o e n hb hx => ?_, I.base.free, fun b o e hx => ?_, I.base.tups, I.base.frzs, I.base.tbls⟩, ⟨m, hn.sameBut hs (Ne.symm (cne x c hc)), fun j y v' e1 e2 e3 => ?_⟩, fun y c' e => ?_, I.free, I.freeC, fun p hp => ?_, tracked ⟨oc, hoc, I.freeC x c hc⟩ hs, by simpa using I.len⟩ ⟨c, hs, .inr hc⟩
    · exact (hs.2 b (Nat.ne_of_lt (Nat.lt_of_lt_of_le (Heap.lt_size e) (I.ok.cab x c hfn hc)))).trans (I.base.keep b o e n hb hx)
    · obtain ⟨sl, e1⟩ := I.base.slot b o e n hb hx
      exact ⟨sl, (hs.2 b (Nat.ne_of_lt (Nat.lt_of_lt_of_le (Heap.lt_size e) (I.ok.cab x c hfn hc)))).trans e1⟩
    · obtain ⟨o', e1⟩ := I.base.there b o e hx
      exact ⟨o', (hs.2 b (Nat.ne_of_lt (Nat.lt_of_lt_of_le (Heap.lt_size e) (I.ok.cab x c hfn hc)))).trans e1⟩
    · by_cases hj : j = i
      · subst hj
        rw [hi] at e1; cases e1
        rw [List.getElem?_set_self hiσ] at e2
        cases e2
        exact ⟨u, r, .inr ⟨.inl hk, c, hc, hc'⟩⟩
      · rw [List.getElem?_set_ne (Ne.symm hj)] at e2
        obtain ⟨u', r', q⟩ := hl j y v' e1 e2 e3
        refine ⟨u', r', ?_⟩
        rcases q with q | ⟨k, c', e, z'⟩
        · exact .inl q
        · refine .inr ⟨k, c', e, z'.sameBut hs ?_⟩
          rintro rfl
          exact hj (nodup_ix hN e1 (I.ok.inj _ _ _ e hc ▸ hi))
    · by_cases hcc : c' = c
      · subst hcc; exact ⟨_, hc'⟩
      · obtain ⟨w2, z2⟩ := I.cell y c' e
        exact ⟨w2, z2.sameBut hs hcc⟩
    · obtain ⟨e, n, ne, nf, d⟩ := I.pin p hp
      refine ⟨(hs.2 p.1 ?_).trans e, n, ne, nf, d⟩
      intro q
      rw [q, hoc] at e
      have q' : oc = p.2 := Option.some.inj e
      exact d w' (by rw [← q']; exact hocd)
theorem store_ok {M : Model} {A : Around} {E : Value → Shared → Prop} {i : Nat} {x : Str} {v : V} {u : Value} {Q : Unit → Shared → Prop} (I : Inv X pins σ H s) (hN : X.N.Nodup) (hi : X.N[i]? = some x) (hx : Loc X.env.scope x) (r : RelV v u)
    (h : ∀ s', Inv X pins (σ.set i (some v)) H s' → Q () s') (hf : X.fn x = true ∨ X.env.scope.names.lookup x = some .local := by first | exact .inl rfl | exact .inr rfl | assumption) : wpAny M A (storeName X.env x u) Q E s :=
  store_ok2 I hN hi hx r (fun s' I' _ => h s' I') hf
theorem Inv.call' {s' : Shared} {ch : List Addr} (I : Inv X pins σ H s) (ho : s'.os = s.os) (u : Un (frs X.stack) ch H H' s.heap s'.heap) (hok : HOk X.prog X.w H' s'.heap) (hg : AllBare s'.gens)
    (hch : ∀ b ∈ ch, (b ∈ X.ex ∨ X.s₀.heap.objs.size ≤ b) ∧ b ≠ X.env.locals ∧ (∀ x c, X.env.cells.lookup x = some c → c ≠ b) ∧ ∀ p ∈ X.pn ++ pins, p.1 ≠ b) : Inv X pins σ H' s' := by
  obtain ⟨h', g', d', t', o'⟩ := s'
  have e : o' = s.os := ho
  subst e
  exact I.call (g' := g') (t' := t') (d' := d') u hok hg hch
end

/-! ### the judgements -/
abbrev XK := Value → Option Addr → Hp → Prop
abbrev St := List (Option V)
abbrev VK := V → Hp → Prop
abbrev TE := St → Hp → VK → Prop
abbrev TT := St → Hp → (Bool → Hp → Prop) → Prop
abbrev TA := St → Hp → (List V → Hp → Prop) → Prop
structure Ends where
  nx : St → Hp → Prop
  rt : VK
  bk : St → Hp → Prop := fun _ _ => False
  ct : St → Hp → Prop := fun _ _ => False
abbrev TS := Ends → St → Hp → Prop

def EP (X : Cx) (pins : List (Addr × Obj)) (σ : St) (Q : VK) (u : Value) (s' : Shared) : Prop := ∃ v H', Inv X pins σ H' s' ∧ RelV v u ∧ Q v H'
def TP (X : Cx) (pins : List (Addr × Obj)) (σ : St) (Q : Bool → Hp → Prop) (b : Bool) (s' : Shared) : Prop := ∃ H', Inv X pins σ H' s' ∧ Q b H'
def AP (X : Cx) (pins : List (Addr × Obj)) (σ : St) (Q : List V → Hp → Prop) (us : List Value) (s' : Shared) : Prop := ∃ vs H', Inv X pins σ H' s' ∧ Vals vs us ∧ Q vs H'
def SP (X : Cx) (pins : List (Addr × Obj)) (D : Ends) (f : Flow) (s' : Shared) : Prop :=
  match f with
  | .next => ∃ σ' H', Inv X pins σ' H' s' ∧ D.nx σ' H'
  | .brk => ∃ σ' H', Inv X pins σ' H' s' ∧ D.bk σ' H'
  | .cont => ∃ σ' H', Inv X pins σ' H' s' ∧ D.ct σ' H'
  | .ret u => ∃ v σ' H', Inv X pins σ' H' s' ∧ RelV v u ∧ D.rt v H'

def PE (X : Cx) (e : Expr) (t : TE) : Prop :=
  ∀ (pins : List (Addr × Obj)) (s : Shared) (σ : St) (H : Hp) (Q : VK), Inv X pins σ H s → t σ H Q → wpAny (model X.prog X.w) X.A (eval e X.env) (EP X pins σ Q) X.xe s
def PT (X : Cx) (e : Expr) (t : TT) : Prop :=
  ∀ (pins : List (Addr × Obj)) (s : Shared) (σ : St) (H : Hp) (Q : Bool → Hp → Prop), Inv X pins σ H s → t σ H Q → wpAny (model X.prog X.w) X.A (isTrue e X.env (eval e X.env)) (TP X pins σ Q) X.xe s
def PW (X : Cx) (e : Expr) (t : TT) : Prop :=
  ∀ (whole : Sem Value) (pins : List (Addr × Obj)) (s : Shared) (σ : St) (H : Hp) (Q : Bool → Hp → Prop), Inv X pins σ H s → t σ H Q → wpAny (model X.prog X.w) X.A (isTrue e X.env whole) (TP X pins σ Q) X.xe s
theorem PW.pt {X : Cx} {e : Expr} {t : TT} (h : PW X e t) : PT X e t := h _
def PA (X : Cx) (es : List Expr) (t : TA) : Prop :=
  ∀ (pos : Pos) (pins : List (Addr × Obj)) (s : Shared) (σ : St) (H : Hp) (Q : List V → Hp → Prop), Inv X pins σ H s → t σ H Q → wpAny (model X.prog X.w) X.A (spliced (backTo pos (starEach es X.env))) (AP X pins σ Q) X.xe s
def PS (X : Cx) (st : Stmt) (t : TS) : Prop :=
  ∀ (pins : List (Addr × Obj)) (s : Shared) (σ : St) (H : Hp) (D : Ends), Inv X pins σ H s → t D σ H → wpAny (model X.prog X.w) X.A (exec st X.env) (SP X pins D) X.xe s
def PSs (X : Cx) (st : List Stmt) (t : TS) : Prop :=
  ∀ (pins : List (Addr × Obj)) (s : Shared) (σ : St) (H : Hp) (D : Ends), Inv X pins σ H s → t D σ H → wpAny (model X.prog X.w) X.A (execs st X.env) (SP X pins D) X.xe s
theorem thn {α : Type} {t : Sem α} {Q Q' : α → Shared → Prop} {M : Model} {A : Around} {E : Value → Shared → Prop} {s : Shared} (h : wpAny M A t Q E s) (hQ : ∀ a s, Q a s → Q' a s) : wpAny M A t Q' E s := wpAny_mono h hQ fun _ _ x => x
end L2

namespace L2
open PySem PySem.Spec PyProof.Rows
section
variable {X : Cx}

theorem bin {a b : Expr} {ta tb : TE} (ha : PE X a ta) (hb : PE X b tb) {pins : List (Addr × Obj)} {s : Shared} {σ : St} {H : Hp} {R : V → V → Hp → Prop} (I : Inv X pins σ H s) (h : ta σ H fun x H1 => tb σ H1 fun y H2 => R x y H2)
    {α : Type} {Q : α → Shared → Prop} {f : Value → Value → Sem α}
    (hf : ∀ v u s2 x y H2, Inv X pins σ H2 s2 → RelV x v → RelV y u → R x y H2 → wpAny (model X.prog X.w) X.A (f v u) Q X.xe s2) :
    wpAny (model X.prog X.w) X.A (eval a X.env) (fun v s₁ => wpAny (model X.prog X.w) X.A (eval b X.env) (fun u s₂ => wpAny (model X.prog X.w) X.A (f v u) Q X.xe s₂) X.xe s₁) X.xe s := by
  refine thn (ha pins s σ H _ I h) fun v s1 ⟨x, H1, I1, r1, q1⟩ => ?_
  refine thn (hb pins s1 σ H1 _ I1 q1) fun u s2 ⟨y, H2, I2, r2, q2⟩ => ?_
  exact hf v u s2 x y H2 I2 r1 r2 q2

/-! ### names and constants -/
def tVar (i : Nat) : TE := fun σ H Q => ∃ v, σ[i]? = some (some v) ∧ Q v H
def tC (v : V) : TE := fun _ H Q => Q v H
theorem pe_var {i : Nat} {x : Str} {pos : Pos} (hN : X.N[i]? = some x) (hv : Vis X.env.scope x) (hd : (x == ("__debug__" : Str)) = false := by decide) (hcd : (x == ("__classdict__" : Str)) = false := by decide) : PE X (.Name x pos) (tVar i) := by
  intro pins s σ H Q I h
  obtain ⟨v, e, h⟩ := h
  obtain ⟨m, hn, hl⟩ := I.loc
  obtain ⟨u, r, l⟩ := hl i x v hN e hv
  have fin : EP X pins σ Q u s := ⟨v, H, I, r, h⟩
  rcases l with ⟨hk, hm⟩ | ⟨hk, c, hc, hcell⟩
  · exact wpAny_Name (wpAny_loadName_local I.ok.kind hk hn hm fin) hd
  · rcases hk with hk | hk
    · exact wpAny_Name (wpAny_loadName_cell I.ok.kind hk hc hcell fin) hd
    · exact wpAny_Name (wpAny_loadName_free I.ok.kind hk hc hcell fin hcd) hd
theorem pe_int {i j pos} : PE X (.Constant (.int i) j pos) (tC (.int i)) := fun _ _ _ H _ I h => wpAny_Constant_int ⟨.int i, H, I.tok _, ⟨_, rfl⟩, h⟩
theorem pe_bl {b j pos} : PE X (.Constant (.bool b) j pos) (tC (.bl b)) := fun _ _ _ H _ I h => Constant_bool ⟨.bl b, H, I, rfl, h⟩
theorem pe_non {j pos} : PE X (.Constant .none j pos) (tC .non) := fun _ _ _ H _ I h => Constant_none ⟨.non, H, I, rfl, h⟩
theorem pe_str {x j pos} : PE X (.Constant (.str x) j pos) (tC (.str x)) := fun _ _ _ H _ I h => Calls.Constant_str ⟨.str x, H, I.tok _, ⟨_, rfl⟩, h⟩

def Gl (X : Cx) (x : Str) : Prop := X.env.kindOf x = some .globalImplicit
theorem ld_glob {E : Value → Shared → Prop} {pins : List (Addr × Obj)} {s : Shared} {σ : St} {H : Hp} {x : Str} {u : Value} {pos : Pos} {Q : Value → Shared → Prop} (I : Inv X pins σ H s) (hg : Gl X x) (hm : X.mg x = some u) (h : Q u s)
    (hd : (x == ("__debug__" : Str)) = false := by decide) : wpAny (model X.prog X.w) X.A (eval (.Name x pos) X.env) Q E s :=
  Calls.Name_function_global I.ok.kind hg (Calls.loadGlobal_global (by rw [I.ok.glob]; exact I.mod.glob.keeps I.bk) hm h) hd
theorem ld_blt {E : Value → Shared → Prop} {pins : List (Addr × Obj)} {s : Shared} {σ : St} {H : Hp} {x : Str} {u : Value} {pos : Pos} {Q : Value → Shared → Prop} (I : Inv X pins σ H s) (hg : Gl X x) (hm : X.mg x = none) (hv : bootBuiltins x = some u) (h : Q u s)
    (hn : x ≠ "__name__" := by decide) (hd : (x == ("__debug__" : Str)) = false := by decide) : wpAny (model X.prog X.w) X.A (eval (.Name x pos) X.env) Q E s := by
  obtain ⟨mb, h1, h2⟩ := I.mod.blt
  exact Calls.Name_function_global I.ok.kind hg (Calls.loadGlobal_builtin (by rw [I.ok.glob]; exact I.mod.glob.keeps I.bk) hm (by rw [I.ok.blt]; exact h1.keeps I.bk) ((h2 x hn).trans hv) h) hd
theorem pe_glob {x : Str} {v : V} {u : Value} {pos : Pos} (hg : Gl X x) (hm : X.mg x = some u) (r : RelV v u) (hd : (x == ("__debug__" : Str)) = false := by decide) : PE X (.Name x pos) (tC v) :=
  fun _ _ _ H _ I h => ld_glob I hg hm ⟨v, H, I, r, h⟩ hd
theorem pe_bltn {x : Str} {v : V} {u : Value} {pos : Pos} (hg : Gl X x) (hm : X.mg x = none) (hv : bootBuiltins x = some u) (r : RelV v u) (hn : x ≠ "__name__" := by decide) (hd : (x == ("__debug__" : Str)) = false := by decide) : PE X (.Name x pos) (tC v) :=
  fun _ _ _ H _ I h => ld_blt I hg hm hv ⟨v, H, I, r, h⟩ hn hd

/-! ### arithmetic -/
variable {a b : Expr} {ta tb : TE} {pos : Pos}
/-! ### comparisons -/
def PC (X : Cx) (op : CmpOp) (a b : Expr) (t : TE) : Prop :=
  ∀ (pins : List (Addr × Obj)) (s : Shared) (σ : St) (H : Hp) (Q : VK), Inv X pins σ H s → t σ H Q →
    wpAny (model X.prog X.w) X.A (eval a X.env) (fun v s₁ => wpAny (model X.prog X.w) X.A (eval b X.env) (fun u s₂ => wpAny (model X.prog X.w) X.A (compareOp op v u) (EP X pins σ Q) X.xe s₂) X.xe s₁) X.xe s
def tB (t : TE) : TT := fun σ H Q => t σ H fun x H1 => ∃ c, x = .bl c ∧ Q c H1
theorem pt_cmp {op : CmpOp} {t : TE} (h : PC X op a b t) (h1 : behindInMarks op b = false := by first | exact nobehind _ (by decide) (by decide) | rfl) : PT X (.Compare a [op] [b] pos) (tB t) := by
  intro pins s σ H Q I hw
  refine wpAny_isTrue_Compare1 (thn (h pins s σ H _ I hw) fun v s1 h1 => thn h1 fun u s2 h2 => thn h2 fun c s3 ⟨x, H1, I1, r1, q1⟩ => ?_) h1
  obtain ⟨d, rfl, q⟩ := q1
  cases r1
  exact wpAny_truthy_bool ⟨H1, I1, q⟩
theorem pt_val {e : Expr} {t : TE} (h : PE X e t) (he : ∀ whole, isTrue e X.env whole = (do let v ← whole; standAt e.pos; holding [v] (truthy v)) := by intro _; rfl) : PT X e (tB t) := by
  intro pins s σ H Q I hw
  refine isTrue_plain (thn (h pins s σ H _ I hw) fun v s1 ⟨x, H1, I1, r1, q1⟩ => ?_) (he _)
  obtain ⟨d, rfl, q⟩ := q1
  cases r1
  exact wpAny_truthy_bool ⟨H1, I1, q⟩

/-! ### and, or, not -/
variable {tA tB' : TT} {rest : List Expr}
def tAnd (t u : TT) : TT := fun σ H Q => t σ H fun c H1 => if c = true then u σ H1 Q else Q false H1
def tOr (t u : TT) : TT := fun σ H Q => t σ H fun c H1 => if c = true then Q true H1 else u σ H1 Q
def tNot (t : TT) : TT := fun σ H Q => t σ H fun c H1 => Q (!c) H1
theorem pw_and1 (ha : PT X a tA) : PW X (.BoolOp .And [a] pos) tA := by
  intro wh pins s σ H Q I h
  refine isTrue_and (thn (ha pins s σ H Q I h) fun c s1 e => ?_)
  cases c with
  | true => exact isTrue_and_nil e
  | false => exact e
theorem pw_or1 (ha : PT X a tA) : PW X (.BoolOp .Or [a] pos) tA := by
  intro wh pins s σ H Q I h
  refine isTrue_or (thn (ha pins s σ H Q I h) fun c s1 e => ?_)
  cases c with
  | false => exact isTrue_or_nil e
  | true => exact e
theorem pw_and (ha : PT X a tA) (hb : PW X (.BoolOp .And (b :: rest) pos) tB') : PW X (.BoolOp .And (a :: b :: rest) pos) (tAnd tA tB') := by
  intro wh pins s σ H Q I h
  refine isTrue_and (thn (ha pins s σ H _ I h) fun c s1 ⟨H1, I1, q1⟩ => ?_)
  cases c with
  | true => exact hb wh pins s1 σ H1 Q I1 q1
  | false => exact ⟨H1, I1, q1⟩
theorem pw_or (ha : PT X a tA) (hb : PW X (.BoolOp .Or (b :: rest) pos) tB') : PW X (.BoolOp .Or (a :: b :: rest) pos) (tOr tA tB') := by
  intro wh pins s σ H Q I h
  refine isTrue_or (thn (ha pins s σ H _ I h) fun c s1 ⟨H1, I1, q1⟩ => ?_)
  cases c with
  | true => exact ⟨H1, I1, q1⟩
  | false => exact hb wh pins s1 σ H1 Q I1 q1
theorem pt_not (ha : PT X a tA) : PT X (.UnaryOp .Not a pos) (tNot tA) := by
  intro pins s σ H Q I h
  exact isTrue_not (ha pins s σ H (fun c H1 => Q (!c) H1) I h)
def tAndV (ta tb : TE) : TE := fun σ H Q => ta σ H fun x H1 => ∃ c, x = .bl c ∧ if c = true then tb σ H1 Q else Q (.bl false) H1
def tOrV (ta tb : TE) : TE := fun σ H Q => ta σ H fun x H1 => ∃ c, x = .bl c ∧ if c = true then Q (.bl true) H1 else tb σ H1 Q
def tNotV (ta : TE) : TE := fun σ H Q => ta σ H fun x H1 => ∃ c, x = .bl c ∧ Q (.bl (!c)) H1
theorem pe_one {op} {t : TE} (h : PE X a t) : PE X (.BoolOp op [a] pos) t := fun pins s σ H Q I hw => BoolOp_one (h pins s σ H Q I hw)
theorem pe_and (ha : PE X a ta) (hb : PE X (.BoolOp .And (b :: rest) pos) tb) : PE X (.BoolOp .And (a :: b :: rest) pos) (tAndV ta tb) := by
  intro pins s σ H Q I h
  refine BoolOp_and (thn (ha pins s σ H _ I h) fun v s1 ⟨x, H1, I1, r1, q1⟩ => ?_)
  obtain ⟨c, rfl, q1⟩ := q1
  cases r1
  refine wpAny_truthy_bool ?_
  cases c with
  | true => exact hb pins s1 σ H1 Q I1 q1
  | false => exact ⟨.bl false, H1, I1, rfl, q1⟩
theorem pe_or (ha : PE X a ta) (hb : PE X (.BoolOp .Or (b :: rest) pos) tb) : PE X (.BoolOp .Or (a :: b :: rest) pos) (tOrV ta tb) := by
  intro pins s σ H Q I h
  refine BoolOp_or (thn (ha pins s σ H _ I h) fun v s1 ⟨x, H1, I1, r1, q1⟩ => ?_)
  obtain ⟨c, rfl, q1⟩ := q1
  cases r1
  refine wpAny_truthy_bool ?_
  cases c with
  | false => exact hb pins s1 σ H1 Q I1 q1
  | true => exact ⟨.bl true, H1, I1, rfl, q1⟩
theorem pe_not (ha : PE X a ta) : PE X (.UnaryOp .Not a pos) (tNotV ta) := by
  intro pins s σ H Q I h
  refine UnaryOp_ (thn (ha pins s σ H _ I h) fun v s1 ⟨x, H1, I1, r1, q1⟩ => ?_)
  obtain ⟨c, rfl, q1⟩ := q1
  cases r1
  exact not_of (wpAny_truthy_bool ⟨.bl (!c), H1, I1, rfl, q1⟩)
def tIf (t : TT) (ta tb : TE) : TE := fun σ H Q => t σ H fun c H1 => if c = true then ta σ H1 Q else tb σ H1 Q
theorem pe_ifExp {c : Expr} (hc : PT X c tA) (ha : PE X a ta) (hb : PE X b tb) : PE X (.IfExp c a b pos) (tIf tA ta tb) := by
  intro pins s σ H Q I h
  refine wpAny_IfExp (thn (hc pins s σ H _ I h) fun d s1 ⟨H1, I1, q1⟩ => ?_)
  cases d with
  | true => exact ha pins s1 σ H1 Q I1 q1
  | false => exact hb pins s1 σ H1 Q I1 q1
end
end L2

namespace L2
open PySem PySem.Spec PyProof.Rows

/-! ### a list, a tuple that is read: tracked, frozen, or an object of the module -/
def SqL (K : PySem.W.Frag) (H : Hp) (a : Addr) (xs : List V) : Prop :=
  Rd H a (.lst xs) ∨
    ∃ (o : Obj) (its : Array Value) (n : Nat), K.lookup a = some o ∧ o.cls = .type "list" ∧ o.dict = none ∧ o.data = .seq its n ∧ its.size ≤ sizeLine ∧ Vals xs its.toList
def SqT (K : PySem.W.Frag) (H : Hp) (a : Addr) (xs : List V) : Prop :=
  Rd H a (.tup xs) ∨
    ∃ (o : Obj) (its : Array Value) (n : Nat), K.lookup a = some o ∧ o.cls = .type "tuple" ∧ o.data = .seq its n ∧ its.size ≤ sizeLine ∧ Vals xs its.toList
def absV : Value → Option V
  | .none => some .non
  | .bool b => some (.bl b)
  | .int i _ => some (.int i)
  | .str x _ => some (.str x)
  | .bytes b _ => some (.byt b)
  | .float b _ => some (.flt b)
  | .ref a => some (.ref a)
  | .type n => some (.ty n)
  | _ => none
theorem RelV.abs {x : V} {u : Value} (r : RelV x u) : absV u = some x := by
  cases x with
  | non => cases r; rfl
  | bl _ => cases r; rfl
  | int _ => obtain ⟨t, rfl⟩ := r; rfl
  | str _ => obtain ⟨t, rfl⟩ := r; rfl
  | byt _ => obtain ⟨t, rfl⟩ := r; rfl
  | flt _ => obtain ⟨t, rfl⟩ := r; rfl
  | ref _ => cases r; rfl
  | ty _ => cases r; rfl
theorem RelV.inj {x y : V} {u : Value} (r : RelV x u) (q : RelV y u) : x = y := Option.some.inj (r.abs.symm.trans q.abs)
theorem Vals.inj {xs ys : List V} {us : List Value} (h : Vals xs us) (h' : Vals ys us) : xs = ys := by
  induction h generalizing ys with
  | nil => cases h'; rfl
  | cons r t ih => cases h' with
    | cons r' t' => rw [r.inj r', ih t']
section
variable {X : Cx} {pins : List (Addr × Obj)} {σ : St} {H : Hp} {s : Shared} {a : Addr} {xs ys : List V}
theorem SqL.of {K : PySem.W.Frag} (h : H a = some (.lst xs)) : SqL K H a xs := .inl (.inl h)
theorem SqT.of {K : PySem.W.Frag} (h : H a = some (.tup xs)) : SqT K H a xs := .inl (.inl h)
theorem Inv.list (I : Inv X pins σ H s) (h : SqL X.K H a xs) : ∃ its : List Value, Vals xs its ∧ PlainL s.heap a its.toArray ∧ xs.length ≤ sizeLine := by
  rcases h with h | ⟨o, its, n, hk, hc, hd, hs, hz, r⟩
  · obtain ⟨z, its, n, r, e⟩ := h.ok I.hok
    exact ⟨its, r, ⟨_, n, e, rfl, rfl, rfl⟩, z⟩
  · refine ⟨its.toList, r, ⟨o, n, I.kIn a o hk, hc, hd, by simpa using hs⟩, ?_⟩
    have e := r.length
    simp only [Array.length_toList] at e
    omega
theorem Inv.tuple (I : Inv X pins σ H s) (h : SqT X.K H a xs) : ∃ its : List Value, Vals xs its ∧ IsTup s.heap a its.toArray ∧ xs.length ≤ sizeLine := by
  rcases h with h | ⟨o, its, n, hk, hc, hs, hz, r⟩
  · obtain ⟨z, its, r, p⟩ := h.ok I.hok
    exact ⟨its, r, p, z⟩
  · refine ⟨its.toList, r, ⟨o, I.kIn a o hk, hc, n, by simpa using hs⟩, ?_⟩
    have e := r.length
    simp only [Array.length_toList] at e
    omega
theorem Inv.list_inj (I : Inv X pins σ H s) (h : SqL X.K H a xs) (h' : SqL X.K H a ys) : xs = ys := by
  obtain ⟨its, r, ⟨o, n, e, _, _, d⟩, _⟩ := I.list h
  obtain ⟨its', r', ⟨o', n', e', _, _, d'⟩, _⟩ := I.list h'
  rw [e] at e'; cases e'
  rw [d] at d'
  injection d' with d1 _
  have : its = its' := by simpa using congrArg Array.toList d1
  subst this
  exact r.inj r'
theorem Inv.tuple_inj (I : Inv X pins σ H s) (h : SqT X.K H a xs) (h' : SqT X.K H a ys) : xs = ys := by
  obtain ⟨its, r, ⟨o, e, _, n, d⟩, _⟩ := I.tuple h
  obtain ⟨its', r', ⟨o', e', _, n', d'⟩, _⟩ := I.tuple h'
  rw [e] at e'; cases e'
  rw [d] at d'
  injection d' with d1 _
  have : its = its' := by simpa using congrArg Array.toList d1
  subst this
  exact r.inj r'
end

/-! ### another wish about exceptions -/
abbrev Cx.wish (X : Cx) (E : Value → Shared → Prop) : Cx := { X with xe := E }
abbrev Cx.nox (X : Cx) : Cx := X.wish fun _ _ => False
theorem Cx.Ok.wish {X : Cx} (ok : X.Ok) (E : Value → Shared → Prop) : (X.wish E).Ok :=
  ⟨ok.mod, ok.kind, ok.glob, ok.blt, ok.above, ok.inj, ok.has, ok.cab, ok.hd, ok.frames, ok.stk, ok.exf, ok.bs, ok.bsz, ok.noex, ok.exfs, ok.funs, ok.frf⟩
theorem Cx.Ok.unwish {X : Cx} {E : Value → Shared → Prop} (ok : (X.wish E).Ok) : X.Ok :=
  ⟨ok.mod, ok.kind, ok.glob, ok.blt, ok.above, ok.inj, ok.has, ok.cab, ok.hd, ok.frames, ok.stk, ok.exf, ok.bs, ok.bsz, ok.noex, ok.exfs, ok.funs, ok.frf⟩
section
variable {X : Cx} {pins : List (Addr × Obj)} {σ : St} {H : Hp} {s : Shared} {E : Value → Shared → Prop}
theorem Inv.wish (I : Inv X pins σ H s) (E : Value → Shared → Prop) : Inv (X.wish E) pins σ H s := ⟨I.ok.wish E, I.os, I.bare, I.base, I.loc, I.cell, I.free, I.freeC, I.pin, I.hok, I.len⟩
theorem Inv.unwish (I : Inv (X.wish E) pins σ H s) : Inv X pins σ H s := ⟨I.ok.unwish, I.os, I.bare, I.base, I.loc, I.cell, I.free, I.freeC, I.pin, I.hok, I.len⟩
theorem SP.unwish {D : Ends} {f : Flow} {s' : Shared} (h : SP (X.wish E) pins D f s') : SP X pins D f s' := by
  cases f with
  | next => obtain ⟨σ', H', I, q⟩ := h; exact ⟨σ', H', I.unwish, q⟩
  | brk => obtain ⟨σ', H', I, q⟩ := h; exact ⟨σ', H', I.unwish, q⟩
  | cont => obtain ⟨σ', H', I, q⟩ := h; exact ⟨σ', H', I.unwish, q⟩
  | ret u => obtain ⟨v, σ', H', I, r, q⟩ := h; exact ⟨v, σ', H', I.unwish, r, q⟩
theorem PSs.nox {st : List Stmt} {t : TS} (h : PSs X.nox st t) : PSs X st t := fun pins s σ H D I hw =>
  wpAny_mono (h pins s σ H D (I.wish _) hw) (fun _ _ q => q.unwish) fun _ _ z => False.elim z
end

/-! ### blocks and small statements -/
section
variable {X : Cx} {st : Stmt} {rest : List Stmt} {t u : TS} {e : Expr} {te : TE} {pos : Pos}
def tNext : TS := fun D σ H => D.nx σ H
def tSeq (t u : TS) : TS := fun D σ H => t { D with nx := u D } σ H
theorem pss_nil : PSs X [] tNext := fun _ _ σ H _ I h => wpAny_execs_nil ⟨σ, H, I, h⟩
theorem pss_cons (h1 : PS X st t) (h2 : PSs X rest u) : PSs X (st :: rest) (tSeq t u) := by
  intro pins s σ H D I h
  refine wpAny_execs_cons (thn (h1 pins s σ H { D with nx := u D } I h) fun f s1 q => ?_)
  cases f with
  | next =>
    obtain ⟨σ', H', I', q⟩ := q
    exact h2 pins s1 σ' H' D I' q
  | ret v => exact q
  | brk => exact q
  | cont => exact q
theorem pss_one (h1 : PS X st t) : PSs X [st] t := by
  intro pins s σ H D I h
  refine wpAny_execs_cons (thn (h1 pins s σ H D I h) fun f s1 q => ?_)
  cases f with
  | next => exact wpAny_execs_nil q
  | ret v => exact q
  | brk => exact q
  | cont => exact q
theorem Inv.quiet {pins : List (Addr × Obj)} {σ : St} {H : Hp} {s : Shared} (I : Inv X pins σ H s) : interactive X.env = false := by simp [interactive, I.ok.kind]
def tDrop (te : TE) : TS := fun D σ H => te σ H fun _ H1 => D.nx σ H1
theorem ps_expr (he : PE X e te) (hs : swapsWith e none pos.line X.env = pure false := by rfl) : PS X (.Expr e pos) (tDrop te) := by
  intro pins s σ H D I h
  exact wpAny_Expr_any (thn (he pins s σ H _ I h) fun v s1 ⟨x, H1, I1, r1, q1⟩ => ⟨σ, H1, I1, q1⟩) I.quiet hs
def tRet (te : TE) : TS := fun D σ H => te σ H D.rt
theorem ps_ret (he : PE X e te) : PS X (.Return (some e) pos) (tRet te) := by
  intro pins s σ H D I h
  exact wpAny_Return_some (thn (he pins s σ H _ I h) fun v s1 ⟨x, H1, I1, r1, q1⟩ => ⟨x, σ, H1, I1, r1, q1⟩)
def tIfS (c : TT) (t u : TS) : TS := fun D σ H => c σ H fun b H1 => if b = true then t D σ H1 else u D σ H1
theorem ps_if {c : Expr} {a b : List Stmt} {tc : TT} (hc : PT X c tc) (ha : PSs X a t) (hb : PSs X b u) : PS X (.If c a b pos) (tIfS tc t u) := by
  intro pins s σ H D I h
  refine wpAny_If (thn (hc pins s σ H _ I h) fun d s1 ⟨H1, I1, q1⟩ => ?_)
  cases d with
  | true => exact ha pins s1 σ H1 D I1 q1
  | false => exact hb pins s1 σ H1 D I1 q1
def tNever : TS := fun _ _ _ => False
theorem ps_never : PS X st tNever := fun _ _ _ _ _ _ h => h.elim
theorem pss_never {sts : List Stmt} : PSs X sts tNever := fun _ _ _ _ _ _ h => h.elim
end

/-! ### targets -/
abbrev TG := V → St → Hp → (St → Hp → Prop) → Prop
abbrev TGs := List V → St → Hp → (St → Hp → Prop) → Prop
def PG (X : Cx) (target : Expr) (t : TG) : Prop :=
  ∀ (pins : List (Addr × Obj)) (s : Shared) (σ : St) (H : Hp) (v : V) (u : Value) (Q : St → Hp → Prop), Inv X pins σ H s → RelV v u → t v σ H Q →
    wpAny (model X.prog X.w) X.A (assign target X.env u) (fun _ s' => ∃ σ' H', Inv X pins σ' H' s' ∧ Q σ' H') X.xe s
def PGs (X : Cx) (ts : List Expr) (t : TGs) : Prop :=
  ∀ (pins : List (Addr × Obj)) (s : Shared) (σ : St) (H : Hp) (vs : List V) (us : List Value) (Q : St → Hp → Prop), Inv X pins σ H s → Vals vs us → t vs σ H Q →
    wpAny (model X.prog X.w) X.A (assignInOrder ((assignEach ts X.env).map (·.2)) us) (fun _ s' => ∃ σ' H', Inv X pins σ' H' s' ∧ Q σ' H') X.xe s
abbrev TSet := V → V → V → Hp → (Hp → Prop) → Prop
def PSet (X : Cx) (t : TSet) : Prop :=
  ∀ (pins : List (Addr × Obj)) (s : Shared) (σ : St) (H : Hp) (o i v : V) (ov iv u : Value) (Q : Hp → Prop), Inv X pins σ H s → RelV o ov → RelV i iv → RelV v u → t o i v H Q →
    wpAny (model X.prog X.w) X.A (setItem ov iv u) (fun _ s' => ∃ H', Inv X pins σ H' s' ∧ Q H') X.xe s
section
variable {X : Cx} {pos : Pos}
def gName (i : Nat) : TG := fun v σ H Q => Q (σ.set i (some v)) H
theorem pg_name {i : Nat} {x : Str} (hN : X.N.Nodup) (hi : X.N[i]? = some x) (hx : Loc X.env.scope x) (hf : X.fn x = true ∨ X.env.scope.names.lookup x = some .local := by first | exact .inl rfl | exact .inr rfl | assumption) : PG X (.Name x pos) (gName i) := by
  intro pins s σ H v u Q I r h
  exact wpAny_assign_Name (store_ok I hN hi hx r (fun s' I' => ⟨_, H, I', h⟩) hf)
def gNil : TGs := fun vs σ H Q => vs = [] ∧ Q σ H
def gCons (t : TG) (u : TGs) : TGs := fun vs σ H Q => ∃ v r, vs = v :: r ∧ t v σ H fun σ' H' => u r σ' H' Q
theorem pgs_nil : PGs X [] gNil := by
  intro pins s σ H vs us Q I r h
  obtain ⟨e, h⟩ := h
  subst e
  cases r
  exact assignInOrder_nil ⟨σ, H, I, h⟩
theorem pgs_cons {e : Expr} {es : List Expr} {t : TG} {u : TGs} (h1 : PG X e t) (h2 : PGs X es u)
    (hs : (assignEach (e :: es) X.env).map (·.2) = assign e X.env :: (assignEach es X.env).map (·.2) := by rfl) : PGs X (e :: es) (gCons t u) := by
  intro pins s σ H vs us Q I r h
  obtain ⟨v, vr, e1, h⟩ := h
  subst e1
  cases r with
  | cons r rr =>
    rw [hs]
    refine assignInOrder_cons (thn (h1 pins s σ H _ _ _ I r h) fun _ s1 ⟨σ1, H1, I1, q1⟩ => ?_)
    exact h2 pins s1 σ1 H1 _ _ Q I1 rr q1
def gTup (K : PySem.W.Frag) (n : Nat) (t : TGs) : TG := fun v σ H Q => ∃ a xs, v = .ref a ∧ SqT K H a xs ∧ xs.length = n ∧ t xs σ H Q
theorem pg_tup {es : List Expr} {k : Nat} {t : TGs} {n : Nat} (hc : X.calm = true) (h : PGs X es t)
    (hn : (assignEach es X.env).length = n := by rfl) (hst : (assignEach es X.env).findIdx? (·.1) = none := by rfl) : PG X (.Tuple es k pos) (gTup X.K n t) := by
  intro pins s σ H v u Q I r hw
  obtain ⟨a, xs, e1, hq, hl, hw⟩ := hw
  subst e1
  cases r
  obtain ⟨its, rv, ht, hz⟩ := I.tuple hq
  refine assign_Tuple_tuple (I.ok.hd hc) ht (by simp [hn, ← hl, rv.length]) hst fun h' hx => ?_
  have I1 : Inv X pins σ H { s with heap := h' } := I.kept (t' := s.toks) fun b o e => hx b o (Nat.ne_of_lt (Heap.lt_size e)) e
  exact h pins _ σ H xs _ Q I1 (by simpa using rv) hw
def gSub (to ti : TE) (t : TSet) : TG := fun v σ H Q => to σ H fun o H1 => ti σ H1 fun i H2 => t o i v H2 fun H3 => Q σ H3
theorem pg_sub {o i : Expr} {to ti : TE} {t : TSet} (ho : PE X o to) (hi : PE X i ti) (hs : PSet X t)
    (ha : ∀ v, assign (.Subscript o i pos) X.env v = (do
      let ov ← holding [v] (eval o X.env)
      let iv ← holding [v, ov] (eval i X.env)
      standAt pos
      holding [v, ov, iv] (setItem ov iv v)
      release [v, ov, iv] []) := by intro _; rfl) : PG X (.Subscript o i pos) (gSub to ti t) := by
  intro pins s σ H v u Q I r h
  rw [ha]
  refine wpAny_bind (wpAny_holding (thn (ho pins s σ H _ I h) fun ov s1 ⟨x, H1, I1, r1, q1⟩ => ?_))
  refine wpAny_bind (wpAny_holding (thn (hi pins s1 σ H1 _ I1 q1) fun iv s2 ⟨y, H2, I2, r2, q2⟩ => ?_))
  refine wpAny_bind (wpAny_standAt (wpAny_bind (wpAny_holding (thn (hs pins s2 σ H2 x y v ov iv u _ I2 r1 r2 r q2) fun _ s3 ⟨H3, I3, q3⟩ => ?_))))
  exact wpAny_release ⟨σ, H3, I3, q3⟩
def tAsg (te : TE) (g : TG) : TS := fun D σ H => te σ H fun x H1 => g x σ H1 D.nx
theorem ps_asg {tg e : Expr} {te : TE} {g : TG} (he : PE X e te) (hg : PG X tg g) (hs : swapsWithSole [tg] e pos.line X.env = pure false := by rfl) (hw : swappedStores [tg] e X.env = pure none := by rfl)
    (h1 : (assignEach [tg] X.env).map (·.2) = [assign tg X.env] := by rfl) : PS X (.Assign [tg] e pos) (tAsg te g) := by
  intro pins s σ H D I h
  refine wpAny_Assign_stores (thn (he pins s σ H _ I h) fun v s1 ⟨x, H1, I1, r1, q1⟩ => ?_) hs hw
  rw [h1]
  exact thn (hg pins s1 σ H1 x v _ I1 r1 q1) fun _ s2 q => q
theorem ps_set {i : Nat} {x : Str} {e : Expr} {te : TE} {pos' : Pos} (hN : X.N.Nodup) (hi : X.N[i]? = some x) (hx : Loc X.env.scope x) (he : PE X e te) (hs : swapsWith e (some (.Name x pos')) pos.line X.env = pure false := by rfl) (hf : X.fn x = true ∨ X.env.scope.names.lookup x = some .local := by first | exact .inl rfl | exact .inr rfl | assumption) :
    PS X (.Assign [.Name x pos'] e pos) (tAsg te (gName i)) := by
  intro pins s σ H D I h
  refine wpAny_Assign_Name (thn (he pins s σ H _ I h) fun v s1 ⟨y, H1, I1, r1, q1⟩ => ?_) hs
  exact store_ok I1 hN hi hx r1 (fun s2 I2 => ⟨_, H1, I2, q1⟩) hf
def tPar (i j : Nat) (ta : TA) : TS := fun D σ H => ta σ H fun vs H1 => ∃ v w, vs = [v, w] ∧ D.nx ((σ.set i (some v)).set j (some w)) H1
theorem ps_par {i j : Nat} {x y : Str} {a b : Expr} {ta : TA} {px py pt : Pos} {kt k2 pt2} (hc : X.calm = true) (hN : X.N.Nodup) (hi : X.N[i]? = some x) (hj : X.N[j]? = some y) (hij : i ≠ j)
    (hx : X.env.scope.names.lookup x = some .local) (hy : X.env.scope.names.lookup y = some .local) (ha : PA X [a, b] ta)
    (hw : swappedStores [.Tuple [.Name x px, .Name y py] kt pt] (.Tuple [a, b] k2 pt2) X.env = pure (some [x, y]))
    (hs : swapsWithSole [.Tuple [.Name x px, .Name y py] kt pt] (.Tuple [a, b] k2 pt2) pos.line X.env = pure false := by rfl) :
    PS X (.Assign [.Tuple [.Name x px, .Name y py] kt pt] (.Tuple [a, b] k2 pt2) pos) (tPar i j ta) := by
  intro pins s σ H D I h
  rw [exec_Assign_arm]
  refine wpAny_bind (wpAny_standAt ?_)
  rw [hs]
  refine wpAny_bind (wpAny_pure ?_)
  rw [if_neg (by decide)]
  refine wpAny_bind (Tuple_ (thn (ha _ pins s σ H _ I h) fun us s1 ⟨vs, H1, I1, r1, q1⟩ => ?_))
  obtain ⟨v, w, e1, q1⟩ := q1
  subst e1
  obtain ⟨u1, u2, rfl, rv, rw'⟩ : ∃ u1 u2, us = [u1, u2] ∧ RelV v u1 ∧ RelV w u2 := by
    cases r1 with
    | cons p q =>
      cases q with
      | cons p' q' =>
        cases q'
        exact ⟨_, _, rfl, p, p'⟩
  refine wpAny_newObj_type ?_ (by show 2 ≤ sizeLine; decide)
  have I2 : Inv X pins σ H1 { s1 with heap := s1.heap.push { cls := .type "tuple", data := .seq [u1, u2].toArray } } := I1.kept (t' := s1.toks) fun b o e => Heap.get?_push_of_some _ e
  rw [hw]
  refine wpAny_bind (wpAny_pure ?_)
  show wpAny (model X.prog X.w) X.A (do rule "assign.swapped-stores"; let items ← unpackItems (.ref s1.heap.objs.size) 2 none; assignInOrder [fun v => bindName X.env y v, fun v => bindName X.env x v] items.reverse; pure Flow.next) _ _ _
  refine wpAny_bind (wpAny_rule (wpAny_bind (unpackItems_tuple (items := #[u1, u2]) (I.ok.hd hc) (IsTup.new s1.heap _) fun h' hx' => ?_)))
  have I3 := I2.kept (h' := h') (t' := s1.toks) fun b o e => hx' b o (Nat.ne_of_lt (Heap.lt_size e)) e
  show wpAny _ _ (assignInOrder [fun v => bindName X.env y v, fun v => bindName X.env x v] [u2, u1] >>= fun _ => pure Flow.next) _ _ _
  refine wpAny_bind (assignInOrder_cons (wpAny_bindName (store_ok I3 hN hj (.inl hy) rw' (fun s2 I4 => ?_) (.inr hy))))
  refine assignInOrder_cons (wpAny_bindName (store_ok I4 hN hi (.inl hx) rv (fun s3 I5 => assignInOrder_nil (wpAny_pure ?_)) (.inr hx)))
  rw [List.set_comm _ _ (Ne.symm hij)] at I5
  exact ⟨_, H1, I5, q1⟩
end

/-! ### while -/
section
variable {X : Cx} {pos : Pos}
def tWhile (c : TT) (tb : TS) : TS := fun D σ H => ∃ W : Nat → St → Hp → Prop, (∃ m, W m σ H) ∧ ∀ m σ H, W m σ H →
  c σ H fun b H1 => if b = true then ∃ N : St → Hp → Prop, (∀ σ' H', N σ' H' → ∃ m', m' < m ∧ W m' σ' H') ∧ tb { D with nx := N, ct := N, bk := D.nx } σ H1 else D.nx σ H1
theorem ps_while {c : Expr} {body : List Stmt} {tc : TT} {tb : TS} (hp : PassesOwn (model X.prog X.w) X.A X.env X.xe) (hc : PT X c tc) (hb : PSs X body tb) : PS X (.While c body [] pos) (tWhile tc tb) := by
  intro pins s σ H D I h
  obtain ⟨W, ⟨m0, w0⟩, turn⟩ := h
  refine wpAny_While (codeAny_whileLoop (fun n s' => ∃ σ' H', Inv X pins σ' H' s' ∧ W n σ' H') ?_ m0 ⟨σ, H, I, w0⟩)
  rintro n s1 ⟨σ1, H1, I1, w1⟩
  refine wpAny_passesOwn hp (thn (hc pins s1 σ1 H1 _ I1 (turn n σ1 H1 w1)) fun b s2 ⟨H2, I2, q2⟩ => ?_)
  cases b with
  | true =>
    obtain ⟨N, hN, q2⟩ := q2
    rw [if_pos rfl]
    refine wpAny_passesOwn hp (thn (hb pins s2 σ1 H2 _ I2 q2) fun f s3 q3 => ?_)
    cases f with
    | next =>
      obtain ⟨σ3, H3, I3, n3⟩ := q3
      obtain ⟨m', hm, w3⟩ := hN σ3 H3 n3
      exact ⟨m', hm, σ3, H3, I3, w3⟩
    | cont =>
      obtain ⟨σ3, H3, I3, n3⟩ := q3
      obtain ⟨m', hm, w3⟩ := hN σ3 H3 n3
      exact ⟨m', hm, σ3, H3, I3, w3⟩
    | brk => exact q3
    | ret v => exact q3
  | false =>
    rw [if_neg Bool.false_ne_true]
    exact wpAny_execs_nil ⟨σ1, H2, I2, q2⟩
end

/-! ### what a loop or a comprehension walks -/
structure It where
  go : Nat → Hp → Prop
  yld : Nat → Hp → V → Hp → Prop
  stop : Nat → Hp → Prop
def FpOk (X : Cx) (pins : List (Addr × Obj)) (H : Hp) (b : Addr) : Prop :=
  H b = none ∧ b ≠ X.env.locals ∧ b ∉ X.fs ∧ (b ∈ X.ex ∨ X.s₀.heap.objs.size ≤ b) ∧ (∀ x c, X.env.cells.lookup x = some c → c ≠ b) ∧ ∀ p ∈ X.pn ++ pins, p.1 ≠ b
theorem Inv.fpOk {X : Cx} {pins : List (Addr × Obj)} {σ : St} {H H' : Hp} {s : Shared} {b : Addr} (I : Inv X pins σ H s) (hb : s.heap.objs.size ≤ b) (hn : H' b = none) : FpOk X pins H' b := by
  refine ⟨hn, Nat.ne_of_gt (Nat.lt_of_lt_of_le I.lt hb), I.nofs hb, .inr (Nat.le_trans I.sz hb), fun x c e z => ?_, fun p hp z => ?_⟩
  · obtain ⟨v, q⟩ := I.cell x c e
    exact absurd (Nat.lt_of_lt_of_le q.lt (by rw [z]; exact hb)) (Nat.lt_irrefl _)
  · exact absurd (Nat.lt_of_lt_of_le (Heap.lt_size (I.pin p hp).1) (by rw [z]; exact hb)) (Nat.lt_irrefl _)
structure Turn (P : Program) (w : World) (K : PySem.W.Frag) (tg : Expr) (J : It) (fp : List Addr) (it : Addr) (tn : Nat → Heap → Prop) : Prop where
  mem : it ∈ fp
  obj : ∀ i h, tn i h → ∀ b ∈ fp, ∃ o, h.get? b = some o ∧ ∀ v, o.data ≠ .cell v
  keep : ∀ i h h', tn i h → (∀ b ∈ fp, ∀ o, h.get? b = some o → h'.get? b = some o) → tn i h'
  item : ∀ (X : Cx), X.prog = P → X.w = w → X.K = K → X.calm = true → ∀ (i : Nat) (pins : List (Addr × Obj)) (s : Shared) (σ : St) (H : Hp) (E : Value → Shared → Prop), Inv X pins σ H s → (∀ b ∈ fp, FpOk X pins H b) → tn i s.heap → J.go i H →
    wpAny (model P w) X.A (pyNext (.ref it)) (fun r s1 => ∃ u, r = some u ∧
      wpAny (model P w) X.A (letOwnedTupleGo tg (.ref it) u) (fun _ s2 => ∃ x H', Inv X pins σ H' s2 ∧ RelV x u ∧ J.yld i H x H' ∧ tn (i + 1) s2.heap ∧ ∀ b ∈ fp, H' b = none) E s1) E s
  done : ∀ (X : Cx), X.prog = P → X.w = w → X.K = K → X.calm = true → ∀ (i : Nat) (pins : List (Addr × Obj)) (s : Shared) (σ : St) (H : Hp) (E : Value → Shared → Prop), Inv X pins σ H s → (∀ b ∈ fp, FpOk X pins H b) → tn i s.heap → J.stop i H →
    wpAny (model P w) X.A (pyNext (.ref it)) (fun r s1 => r = none ∧ Inv X pins σ H s1) E s
  self : ∀ (A : Around) (i : Nat) (s : Shared) (Q : Value → Shared → Prop) (E : Value → Shared → Prop), tn i s.heap → Q (.ref it) s → wpAny (model P w) A (pyIter (.ref it)) Q E s
abbrev TI := St → Hp → (It → Hp → Prop) → Prop
def PIE (X : Cx) (pins : List (Addr × Obj)) (σ : St) (tg : Expr) (R : It → Hp → Prop) (itv : Value) (s2 : Shared) : Prop :=
  ∃ (it : Addr) (fp : List Addr) (tn : Nat → Heap → Prop) (J : It) (H' : Hp), itv = .ref it ∧ Inv X pins σ H' s2 ∧ Turn X.prog X.w X.K tg J fp it tn ∧ tn 0 s2.heap ∧ (∀ b ∈ fp, FpOk X pins H' b) ∧ R J H'
def PI (X : Cx) (tg iter : Expr) (wi : TI) : Prop :=
  ∀ (pins : List (Addr × Obj)) (s : Shared) (σ : St) (H : Hp) (R : It → Hp → Prop), Inv X pins σ H s → wi σ H R →
    wpAny (model X.prog X.w) X.A (eval iter X.env) (fun v s1 => wpAny (model X.prog X.w) X.A (pyIter v) (PIE X pins σ tg R) X.xe s1) X.xe s

theorem go_of {M : Model} {A : Around} {E : Value → Shared → Prop} {s : Shared} {tg : Expr} {it : Addr} {u : Value} {o : Obj} {n : String} {vs : Array Value} {Q : Unit → Shared → Prop} (ho : s.heap.get? it = some o) (hc : o.cls = .type n) (hd : o.data = .fields vs)
    (hn : ["enumerate", "zip", "dict_itemiterator", "dict_reverseitemiterator", "odict_iterator", "itertools.zip_longest", "itertools.pairwise"].contains n = false) (hQ : Q () s) : wpAny M A (letOwnedTupleGo tg (.ref it) u) Q E s := by
  unfold letOwnedTupleGo
  cases tg <;> first
    | exact wpAny_pure hQ
    | (cases u <;> first
        | exact wpAny_pure hQ
        | (refine wpAny_bind (wpAny_load ho ?_)
           rw [hc, hd]
           show wpAny M A (if (["enumerate", "zip", "dict_itemiterator", "dict_reverseitemiterator", "odict_iterator", "itertools.zip_longest", "itertools.pairwise"].contains n && vs[0]? == some (rawInt _)) = true then _ else _) Q E s
           rw [if_neg (by intro h; rw [hn, Bool.false_and] at h; cases h)]
           exact wpAny_pure hQ))

def Itl (K : PySem.W.Frag) (a : Addr) : It :=
  ⟨fun i H => ∃ xs x, SqL K H a xs ∧ xs[i]? = some x, fun i H x H' => H' = H ∧ ∀ xs, SqL K H a xs → xs[i]? = some x, fun i H => ∃ xs, SqL K H a xs ∧ xs.length ≤ i⟩
def Itt (K : PySem.W.Frag) (a : Addr) : It :=
  ⟨fun i H => ∃ xs x, SqT K H a xs ∧ xs[i]? = some x, fun i H x H' => H' = H ∧ ∀ xs, SqT K H a xs → xs[i]? = some x, fun i H => ∃ xs, SqT K H a xs ∧ xs.length ≤ i⟩
def Itr (lo : Int) (n : Nat) : It := ⟨fun i _ => i < n, fun i H x H' => H' = H ∧ x = .int (lo + i), fun i _ => n ≤ i⟩
theorem turn_list {P : Program} {w : World} {K : PySem.W.Frag} {tg : Expr} (a it : Addr) : Turn P w K tg (Itl K a) [it] it (fun i h => h.IsListIter it a i) where
  mem := by simp
  obj := fun i h st b hb => by
    have e : b = it := by simpa using hb
    subst e
    obtain ⟨o, e, c, d⟩ := st
    exact ⟨o, e, fun v z => by rw [d] at z; cases z⟩
  keep := fun i h h' st k => st.at fun o e => k it (by simp) o e
  item := by
    intro X hP hw hK hc i pins s σ H E I hf st hg
    subst hP hw hK
    obtain ⟨xs, x, hq, hx⟩ := hg
    obtain ⟨its, rv, p, hz⟩ := I.list hq
    obtain ⟨u, hu, ru⟩ := rv.get hx
    obtain ⟨f0, f1, f2, f3, f4, f5⟩ := hf it (by simp)
    refine wpAny_pyNext_list_item st p.isList (x := u) (by simpa using hu) fun h' st' sb => ?_
    have I1 : Inv X pins σ H { s with heap := h' } := I.turned (t' := s.toks) (fun b o hb e => (sb.2 b hb).trans e) f0 f1 f3 f4 f5
    obtain ⟨o, e, c, d⟩ := id st'
    exact ⟨u, rfl, go_of (s := { s with heap := h' }) e c d (by decide) ⟨x, H, I1, ru, ⟨rfl, fun ys hy => by rw [I.list_inj hy hq]; exact hx⟩, st', fun b hb => (hf b hb).1⟩⟩
  done := by
    intro X hP hw hK hc i pins s σ H E I hf st hg
    subst hP hw hK
    obtain ⟨xs, hq, hx⟩ := hg
    obtain ⟨its, rv, p, hz⟩ := I.list hq
    obtain ⟨f0, f1, f2, f3, f4, f5⟩ := hf it (by simp)
    have hl := rv.length
    exact wpAny_pyNext_list_end (I.ok.hd hc) st p.isList (by simp; omega) fun h' eb => ⟨rfl, I.turned (t' := s.toks) (fun b o hb e => eb b o hb e) f0 f1 f3 f4 f5⟩
  self := fun _ _ _ _ _ st h => wpAny_pyIter_listiter st h
theorem turn_tuple {P : Program} {w : World} {K : PySem.W.Frag} {tg : Expr} (a it : Addr) : Turn P w K tg (Itt K a) [it] it (fun i h => h.IsTupleIter it a i) where
  mem := by simp
  obj := fun i h st b hb => by
    have e : b = it := by simpa using hb
    subst e
    obtain ⟨o, e, c, d⟩ := st
    exact ⟨o, e, fun v z => by rw [d] at z; cases z⟩
  keep := fun i h h' st k => st.at fun o e => k it (by simp) o e
  item := by
    intro X hP hw hK hc i pins s σ H E I hf st hg
    subst hP hw hK
    obtain ⟨xs, x, hq, hx⟩ := hg
    obtain ⟨its, rv, p, hz⟩ := I.tuple hq
    obtain ⟨u, hu, ru⟩ := rv.get hx
    obtain ⟨f0, f1, f2, f3, f4, f5⟩ := hf it (by simp)
    refine wpAny_pyNext_tuple_item st (show s.heap.IsTuple a its.toArray from p) (x := u) (by simpa using hu) fun h' st' sb => ?_
    have I1 : Inv X pins σ H { s with heap := h' } := I.turned (t' := s.toks) (fun b o hb e => (sb.2 b hb).trans e) f0 f1 f3 f4 f5
    obtain ⟨o, e, c, d⟩ := id st'
    exact ⟨u, rfl, go_of (s := { s with heap := h' }) e c d (by decide) ⟨x, H, I1, ru, ⟨rfl, fun ys hy => by rw [I.tuple_inj hy hq]; exact hx⟩, st', fun b hb => (hf b hb).1⟩⟩
  done := by
    intro X hP hw hK hc i pins s σ H E I hf st hg
    subst hP hw hK
    obtain ⟨xs, hq, hx⟩ := hg
    obtain ⟨its, rv, p, hz⟩ := I.tuple hq
    obtain ⟨f0, f1, f2, f3, f4, f5⟩ := hf it (by simp)
    have hl := rv.length
    exact wpAny_pyNext_tuple_end (I.ok.hd hc) st (show s.heap.IsTuple a its.toArray from p) (by simp; omega) fun h' eb => ⟨rfl, I.turned (t' := s.toks) (fun b o hb e => eb b o hb e) f0 f1 f3 f4 f5⟩
  self := fun _ _ _ _ _ st h => wpAny_pyIter_tupleiter st h
theorem turn_range {P : Program} {w : World} {K : PySem.W.Frag} {tg : Expr} (it : Addr) (lo : Int) (n : Nat) : Turn P w K tg (Itr lo n) [it] it (fun i h => IsRangeIter h it (lo + (i : Nat) * 1) ((n : Int) - (i : Nat)) 1) where
  mem := by simp
  obj := fun i h st b hb => by
    have e : b = it := by simpa using hb
    subst e
    exact ⟨_, st, fun v z => by
      have z' : Data.fields _ = Data.cell v := z
      cases z'⟩
  keep := fun i h h' st k => k it (by simp) _ st
  item := by
    intro X hP hw hK hc i pins s σ H E I hf st hg
    subst hP hw hK
    obtain ⟨f0, f1, f2, f3, f4, f5⟩ := hf it (by simp)
    have W := Walks.range (prog := X.prog) (w := X.w) (I.ok.hd hc) it lo 1 n
    refine W.item i s _ _ hg st fun v h' tk hv st' kk => ?_
    obtain ⟨t, rfl⟩ := hv
    have I1 : Inv X pins σ H { s with heap := h', toks := tk } := I.turned (fun b o hb e => kk b o (by simpa using hb) e) f0 f1 f3 f4 f5
    refine ⟨_, rfl, go_of (s := { s with heap := h', toks := tk }) (n := "range_iterator") st' rfl rfl (by decide) ⟨.int (lo + i), H, I1, ⟨t, ?_⟩, ⟨rfl, rfl⟩, st', fun b hb => (hf b hb).1⟩⟩
    rw [Int.mul_one]
  done := by
    intro X hP hw hK hc i pins s σ H E I hf st hg
    subst hP hw hK
    obtain ⟨f0, f1, f2, f3, f4, f5⟩ := hf it (by simp)
    exact wpAny_pyNext_range_end (I.ok.hd hc) st (by have : n ≤ i := hg; omega) fun h' eb => ⟨rfl, I.turned (t' := s.toks) (fun b o hb e => eb b o hb e) f0 f1 f3 f4 f5⟩
  self := fun _ _ _ _ _ st h => wpAny_pyIter_rangeiter st h
end L2

namespace L2
open PySem PySem.Spec PyProof.Rows
section
variable {X : Cx} {tg : Expr}
def iList (K : PySem.W.Frag) (tl : TE) : TI := fun σ H R => tl σ H fun x H1 => ∃ a, x = .ref a ∧ (∃ xs, SqL K H1 a xs) ∧ R (Itl K a) H1
def iTup (K : PySem.W.Frag) (tl : TE) : TI := fun σ H R => tl σ H fun x H1 => ∃ a, x = .ref a ∧ (∃ xs, SqT K H1 a xs) ∧ R (Itt K a) H1
theorem pi_list {l : Expr} {tl : TE} (hl : PE X l tl) : PI X tg l (iList X.K tl) := by
  intro pins s σ H R I h
  refine thn (hl pins s σ H _ I h) fun v s1 ⟨x, H1, I1, r1, q1⟩ => ?_
  obtain ⟨a, e, ⟨xs, hq⟩, q⟩ := q1
  subst e
  cases r1
  obtain ⟨its, rv, p, hz⟩ := I1.list hq
  refine wpAny_pyIter_list p.isList ?_
  refine ⟨s1.heap.objs.size, [s1.heap.objs.size], _, _, H1, rfl, I1.kept (t' := s1.toks) fun b o e => Heap.get?_push_of_some _ e, turn_list a _, ⟨_, Heap.get?_push_size _ rfl, rfl, rfl⟩, fun b hb => ?_, q⟩
  have e : b = s1.heap.objs.size := by simpa using hb
  subst e
  exact I1.fpOk (Nat.le_refl _) (I1.hok.fresh (Nat.le_refl _))
theorem pi_tup {l : Expr} {tl : TE} (hl : PE X l tl) : PI X tg l (iTup X.K tl) := by
  intro pins s σ H R I h
  refine thn (hl pins s σ H _ I h) fun v s1 ⟨x, H1, I1, r1, q1⟩ => ?_
  obtain ⟨a, e, ⟨xs, hq⟩, q⟩ := q1
  subst e
  cases r1
  obtain ⟨its, rv, p, hz⟩ := I1.tuple hq
  refine wpAny_pyIter_tuple (show s1.heap.IsTuple a its.toArray from p) ?_
  refine ⟨s1.heap.objs.size, [s1.heap.objs.size], _, _, H1, rfl, I1.kept (t' := s1.toks) fun b o e => Heap.get?_push_of_some _ e, turn_tuple a _, ⟨_, Heap.get?_push_size _ rfl, rfl, rfl⟩, fun b hb => ?_, q⟩
  have e : b = s1.heap.objs.size := by simpa using hb
  subst e
  exact I1.fpOk (Nat.le_refl _) (I1.hok.fresh (Nat.le_refl _))
theorem range_it {pins : List (Addr × Obj)} {σ : St} {H : Hp} {s : Shared} {R : It → Hp → Prop} {E : Value → Shared → Prop} {lo hi : Int} {t u v : Tok} {tk : Nat} (I : Inv X pins σ H s) (h1 : -(2 ^ 62) ≤ lo) (h2 : lo < 2 ^ 62) (h3 : -(2 ^ 62) ≤ hi) (h4 : hi < 2 ^ 62)
    (q : R (Itr lo (hi - lo).toNat) H) : wpAny (model X.prog X.w) X.A (pyIter (.ref s.heap.objs.size)) (PIE X pins σ tg R) E { s with heap := s.heap.push { cls := .type "range", data := .fields #[.int lo t, .int hi u, .int 1 v] }, toks := tk } := by
  refine wpAny_pyIter_range (IsRange.new ..) (small_one h1 h2 h3 h4) ?_
  have I1 : Inv X pins σ H { s with heap := s.heap.push { cls := .type "range", data := .fields #[.int lo t, .int hi u, .int 1 v] }, toks := tk } := I.kept fun b o e => Heap.get?_push_of_some _ e
  refine ⟨(s.heap.push { cls := .type "range", data := .fields #[.int lo t, .int hi u, .int 1 v] }).objs.size, [(s.heap.push { cls := .type "range", data := .fields #[.int lo t, .int hi u, .int 1 v] }).objs.size], _, _, H, rfl,
    I1.kept (t' := tk) fun b o e => Heap.get?_push_of_some _ e, turn_range _ lo (hi - lo).toNat, ?_, fun b hb => ?_, q⟩
  · have e1 : lo + ((0 : Nat) : Int) * 1 = lo := by simp
    have e2 : (((hi - lo).toNat : Nat) : Int) - ((0 : Nat) : Int) = Builtin.Range.rangeSize lo hi 1 := by rw [rangeSize_one]; split <;> omega
    show IsRangeIter _ _ (lo + ((0 : Nat) : Int) * 1) ((((hi - lo).toNat : Nat) : Int) - ((0 : Nat) : Int)) 1
    rw [e1, e2]
    exact Heap.get?_push_size _ rfl
  · have e : b = (s.heap.push { cls := .type "range", data := .fields #[.int lo t, .int hi u, .int 1 v] }).objs.size := by simpa using hb
    subst e
    exact I1.fpOk (Nat.le_refl _) (I1.hok.fresh (Nat.le_refl _))
def iRng1 (ta : TA) : TI := fun σ H R => ta σ H fun vs H1 => ∃ j : Int, vs = [.int j] ∧ -(2 ^ 62) ≤ j ∧ j < 2 ^ 62 ∧ R (Itr 0 j.toNat) H1
theorem pi_range1 {a : Expr} {ta : TA} {p pos : Pos} (hg : Gl X "range") (hm : X.mg "range" = none) (ha : PA X [a] ta) (hs : starEach [a] X.env = [(false, eval a X.env)] := by rfl) : PI X tg (.Call (.Name "range" p) [a] [] pos) (iRng1 ta) := by
  intro pins s σ H R I h
  refine Call_ (ld_blt I hg hm boot_range (PyProof.Rows.callWith_type1 (thn (ha pos pins s σ H _ I h) fun us s1 ⟨vs, H1, I1, r1, q1⟩ => ?_) hs rfl))
  obtain ⟨j, e, q1, q2, q⟩ := q1
  subst e
  cases r1 with
  | cons r rr =>
    cases rr
    obtain ⟨t, rfl⟩ := r
    exact call_range_1 (range_it I1 (by omega) (by omega) q1 q2 (by simpa using q))
/-! ### for -/
def tFor (wi : TI) (g : TG) (tb : TS) : TS := fun D σ H => wi σ H fun J H1 => ∃ W : Nat → Nat → St → Hp → Prop, (∃ m, W 0 m σ H1) ∧ ∀ i m σ H, W i m σ H →
  (J.stop i H ∧ D.nx σ H) ∨ (J.go i H ∧ ∃ N : St → Hp → Prop, (∀ σ' H', N σ' H' → ∃ m', m' < m ∧ W (i + 1) m' σ' H') ∧ ∀ x H', J.yld i H x H' → g x σ H' fun σ2 H2 => tb { D with nx := N, ct := N, bk := D.nx } σ2 H2)
def pinsAt (fp : List Addr) (h : Heap) : List (Addr × Obj) := fp.filterMap fun b => (h.get? b).map fun o => (b, o)
theorem mem_pinsAt {fp : List Addr} {h : Heap} {b : Addr} {o : Obj} (hb : b ∈ fp) (e : h.get? b = some o) : (b, o) ∈ pinsAt fp h := List.mem_filterMap.mpr ⟨b, hb, by rw [e]; rfl⟩
theorem of_pinsAt {fp : List Addr} {h : Heap} {p : Addr × Obj} (hp : p ∈ pinsAt fp h) : p.1 ∈ fp ∧ h.get? p.1 = some p.2 := by
  obtain ⟨b, hb, e⟩ := List.mem_filterMap.mp hp
  cases q : h.get? b with
  | none => rw [q] at e; cases e
  | some o =>
    rw [q] at e
    have e' : (b, o) = p := Option.some.inj e
    subst e'
    exact ⟨hb, q⟩
theorem Inv.pinned {pins : List (Addr × Obj)} {σ : St} {H : Hp} {s : Shared} {fp : List Addr} (I : Inv X pins σ H s) (hf : ∀ b ∈ fp, FpOk X pins H b) (ho : ∀ b ∈ fp, ∃ o, s.heap.get? b = some o ∧ ∀ v, o.data ≠ .cell v) : Inv X (pins ++ pinsAt fp s.heap) σ H s :=
  I.pins_of fun p hp => (List.mem_append.mp hp).elim (fun z => I.pin p (List.mem_append_right _ z)) fun z => by
    obtain ⟨hb, e⟩ := of_pinsAt z
    obtain ⟨f0, f1, f2, _⟩ := hf p.1 hb
    obtain ⟨o, e', d⟩ := ho p.1 hb
    rw [e] at e'; cases e'
    exact ⟨e, f0, f1, f2, d⟩
theorem Inv.unpinned {pins pl : List (Addr × Obj)} {σ : St} {H : Hp} {s : Shared} (I : Inv X (pins ++ pl) σ H s) : Inv X pins σ H s := I.pins_of fun p hp => I.pin p (List.mem_append_right _ (List.mem_append_left _ hp))
theorem ps_for {iter : Expr} {body : List Stmt} {wi : TI} {g : TG} {tb : TS} {pos : Pos} (hp : PassesOwn (model X.prog X.w) X.A X.env X.xe) (hc : X.calm = true) (hi : PI X tg iter wi) (hg : PG X tg g) (hb : PSs X body tb)
    (hs : ∀ x, foldedSetIterable iter X.env x = pure x := by intro _; rfl) : PS X (.For tg iter body [] pos) (tFor wi g tb) := by
  intro pins s σ H D I h
  refine wpAny_For (thn (hi pins s σ H _ I h) fun v s1 h1 => thn h1 fun itv s2 h2 => ?_) hs
  obtain ⟨it, fp, tn, J, H2, e, I2, T, st2, f2, W, ⟨m0, w0⟩, turn⟩ := h2
  subst e
  -- what stays true of the iterator's objects through the loop
  have stat : ∀ {H' : Hp}, (∀ b ∈ fp, H' b = none) → ∀ b ∈ fp, FpOk X pins H' b := fun hn b hb => ⟨hn b hb, (f2 b hb).2⟩
  refine codeAny_forLoop_any (fun n s' => ∃ i σ' H', Inv X pins σ' H' s' ∧ tn i s'.heap ∧ (∀ b ∈ fp, H' b = none) ∧ W i n σ' H') ?_ m0 ⟨0, σ, H2, I2, st2, fun b hb => (f2 b hb).1, w0⟩
  rintro n s3 ⟨i, σ3, H3, I3, st3, fr3, w3⟩
  rcases turn i n σ3 H3 w3 with ⟨stop, qn⟩ | ⟨go, N, hN, step⟩
  · refine wpAny_passesOwn hp (thn (T.done X rfl rfl rfl hc i pins s3 σ3 H3 X.xe I3 (stat fr3) st3 stop) fun r s4 ⟨hr, I4⟩ => ?_)
    subst hr
    exact wpAny_execs_nil ⟨σ3, H3, I4, qn⟩
  · refine wpAny_passesOwn hp (thn (T.item X rfl rfl rfl hc i pins s3 σ3 H3 X.xe I3 (stat fr3) st3 go) fun r s4 ⟨u, hr, h4⟩ => ?_)
    subst hr
    refine wpAny_passesOwn hp (thn h4 fun _ s5 ⟨x, H5, I5, r5, y5, st5, fr5⟩ => ?_)
    have I5' := I5.pinned (stat fr5) (T.obj _ _ st5)
    refine wpAny_passesOwn hp (thn (hg _ s5 σ3 H5 x u _ I5' r5 (step x H5 y5)) fun _ s6 ⟨σ6, H6, I6, q6⟩ => ?_)
    refine wpAny_passesOwn hp (thn (hb _ s6 σ6 H6 _ I6 q6) fun f s7 q7 => ?_)
    have again : ∀ {σ7 : St} {H7 : Hp}, Inv X (pins ++ pinsAt fp s5.heap) σ7 H7 s7 → N σ7 H7 → ∃ m, m < n ∧ ∃ i σ' H', Inv X pins σ' H' s7 ∧ tn i s7.heap ∧ (∀ b ∈ fp, H' b = none) ∧ W i m σ' H' := fun {σ7 H7} I7 n7 => by
      obtain ⟨m', hm, w7⟩ := hN σ7 H7 n7
      refine ⟨m', hm, i + 1, σ7, H7, I7.unpinned, T.keep _ _ _ st5 fun b hb o e => (I7.pin (b, o) (List.mem_append_right _ (List.mem_append_right _ (mem_pinsAt hb e)))).1, fun b hb => ?_, w7⟩
      obtain ⟨o, e, d⟩ := T.obj _ _ st5 b hb
      exact (I7.pin (b, o) (List.mem_append_right _ (List.mem_append_right _ (mem_pinsAt hb e)))).2.1
    cases f with
    | next => obtain ⟨σ7, H7, I7, n7⟩ := q7; exact again I7 n7
    | cont => obtain ⟨σ7, H7, I7, n7⟩ := q7; exact again I7 n7
    | brk => obtain ⟨σ7, H7, I7, q7⟩ := q7; exact ⟨σ7, H7, I7.unpinned, q7⟩
    | ret v => obtain ⟨x7, σ7, H7, I7, r7, q7⟩ := q7; exact ⟨x7, σ7, H7, I7.unpinned, r7, q7⟩
end

/-! ### the forms one uses -/
theorem for_list {K : PySem.W.Frag} {a : Addr} {xs : List V} {g : TG} {tb : TS} {D : Ends} {σ : St} {H : Hp} (Pv : Nat → St → Hp → Prop) (h0 : Pv 0 σ H) (hl : ∀ i σ H, i ≤ xs.length → Pv i σ H → SqL K H a xs)
    (hs : ∀ i x σ H, xs[i]? = some x → Pv i σ H → g x σ H fun σ2 H2 => tb { D with nx := Pv (i + 1), ct := Pv (i + 1), bk := D.nx } σ2 H2) (hd : ∀ σ H, Pv xs.length σ H → D.nx σ H) :
    ∃ W : Nat → Nat → St → Hp → Prop, (∃ m, W 0 m σ H) ∧ ∀ i m σ H, W i m σ H →
      ((Itl K a).stop i H ∧ D.nx σ H) ∨ ((Itl K a).go i H ∧ ∃ N : St → Hp → Prop, (∀ σ' H', N σ' H' → ∃ m', m' < m ∧ W (i + 1) m' σ' H') ∧ ∀ x H', (Itl K a).yld i H x H' → g x σ H' fun σ2 H2 => tb { D with nx := N, ct := N, bk := D.nx } σ2 H2) := by
  refine ⟨fun i m σ H => m = xs.length - i ∧ i ≤ xs.length ∧ Pv i σ H, ⟨xs.length, by simp, Nat.zero_le _, h0⟩, ?_⟩
  rintro i m σ H ⟨rfl, hi, p⟩
  have q := hl i σ H hi p
  by_cases hlt : i < xs.length
  · refine .inr ⟨⟨xs, xs[i], q, by simp [hlt]⟩, Pv (i + 1), fun σ' H' p' => ⟨xs.length - (i + 1), by omega, rfl, hlt, p'⟩, fun x H' y => ?_⟩
    obtain ⟨e, y⟩ := y
    subst e
    exact hs i x σ _ (y xs q) p
  · have e : i = xs.length := by omega
    subst e
    exact .inl ⟨⟨xs, q, Nat.le_refl _⟩, hd σ H p⟩
theorem for_tup {K : PySem.W.Frag} {a : Addr} {xs : List V} {g : TG} {tb : TS} {D : Ends} {σ : St} {H : Hp} (Pv : Nat → St → Hp → Prop) (h0 : Pv 0 σ H) (hl : ∀ i σ H, i ≤ xs.length → Pv i σ H → SqT K H a xs)
    (hs : ∀ i x σ H, xs[i]? = some x → Pv i σ H → g x σ H fun σ2 H2 => tb { D with nx := Pv (i + 1), ct := Pv (i + 1), bk := D.nx } σ2 H2) (hd : ∀ σ H, Pv xs.length σ H → D.nx σ H) :
    ∃ W : Nat → Nat → St → Hp → Prop, (∃ m, W 0 m σ H) ∧ ∀ i m σ H, W i m σ H →
      ((Itt K a).stop i H ∧ D.nx σ H) ∨ ((Itt K a).go i H ∧ ∃ N : St → Hp → Prop, (∀ σ' H', N σ' H' → ∃ m', m' < m ∧ W (i + 1) m' σ' H') ∧ ∀ x H', (Itt K a).yld i H x H' → g x σ H' fun σ2 H2 => tb { D with nx := N, ct := N, bk := D.nx } σ2 H2) := by
  refine ⟨fun i m σ H => m = xs.length - i ∧ i ≤ xs.length ∧ Pv i σ H, ⟨xs.length, by simp, Nat.zero_le _, h0⟩, ?_⟩
  rintro i m σ H ⟨rfl, hi, p⟩
  have q := hl i σ H hi p
  by_cases hlt : i < xs.length
  · refine .inr ⟨⟨xs, xs[i], q, by simp [hlt]⟩, Pv (i + 1), fun σ' H' p' => ⟨xs.length - (i + 1), by omega, rfl, hlt, p'⟩, fun x H' y => ?_⟩
    obtain ⟨e, y⟩ := y
    subst e
    exact hs i x σ _ (y xs q) p
  · have e : i = xs.length := by omega
    subst e
    exact .inl ⟨⟨xs, q, Nat.le_refl _⟩, hd σ H p⟩
theorem for_range {lo : Int} {n : Nat} {g : TG} {tb : TS} {D : Ends} {σ : St} {H : Hp} (Pv : Nat → St → Hp → Prop) (h0 : Pv 0 σ H)
    (hs : ∀ i σ H, i < n → Pv i σ H → g (.int (lo + i)) σ H fun σ2 H2 => tb { D with nx := Pv (i + 1), ct := Pv (i + 1), bk := D.nx } σ2 H2) (hd : ∀ σ H, Pv n σ H → D.nx σ H) :
    ∃ W : Nat → Nat → St → Hp → Prop, (∃ m, W 0 m σ H) ∧ ∀ i m σ H, W i m σ H →
      ((Itr lo n).stop i H ∧ D.nx σ H) ∨ ((Itr lo n).go i H ∧ ∃ N : St → Hp → Prop, (∀ σ' H', N σ' H' → ∃ m', m' < m ∧ W (i + 1) m' σ' H') ∧ ∀ x H', (Itr lo n).yld i H x H' → g x σ H' fun σ2 H2 => tb { D with nx := N, ct := N, bk := D.nx } σ2 H2) := by
  refine ⟨fun i m σ H => m = n - i ∧ i ≤ n ∧ Pv i σ H, ⟨n, by simp, Nat.zero_le _, h0⟩, ?_⟩
  rintro i m σ H ⟨rfl, hi, p⟩
  by_cases hlt : i < n
  · refine .inr ⟨hlt, Pv (i + 1), fun σ' H' p' => ⟨n - (i + 1), by omega, rfl, hlt, p'⟩, fun x H' y => ?_⟩
    obtain ⟨e, y⟩ := y
    subst e y
    exact hs i σ _ hlt p
  · have e : i = n := by omega
    subst e
    exact .inl ⟨Nat.le_refl _, hd σ H p⟩
theorem while_by {c : TT} {tb : TS} {D : Ends} {σ : St} {H : Hp} (Pv : St → Hp → Prop) (μ : St → Hp → Nat) (h0 : Pv σ H)
    (hs : ∀ σ H, Pv σ H → c σ H fun b H1 => if b = true then tb { D with nx := fun σ' H' => Pv σ' H' ∧ μ σ' H' < μ σ H, ct := fun σ' H' => Pv σ' H' ∧ μ σ' H' < μ σ H, bk := D.nx } σ H1 else D.nx σ H1)
    (mono : ∀ σ H Q Q', (∀ b H1, Q b H1 → Q' b H1) → c σ H Q → c σ H Q') : tWhile c tb D σ H := by
  refine ⟨fun m σ H => m = μ σ H ∧ Pv σ H, ⟨_, rfl, h0⟩, ?_⟩
  rintro m σ H ⟨rfl, p⟩
  refine mono σ H _ _ (fun b H1 q => ?_) (hs σ H p)
  cases b with
  | true => exact ⟨_, fun σ' H' ⟨p', l⟩ => ⟨_, l, rfl, p'⟩, q⟩
  | false => exact q
end L2

namespace L2
open PySem PySem.Spec PyProof.Rows

abbrev R2 := V → V → Hp → VK → Prop
def OpR (X : Cx) (f : Value → Value → Sem Value) (r : R2) : Prop :=
  ∀ (pins : List (Addr × Obj)) (s : Shared) (σ : St) (H : Hp) (x y : V) (v u : Value) (Q : VK), Inv X pins σ H s → RelV x v → RelV y u → r x y H Q →
    wpAny (model X.prog X.w) X.A (f v u) (EP X pins σ Q) X.xe s
def UnR (X : Cx) (f : Value → Sem Value) (r : V → Hp → VK → Prop) : Prop :=
  ∀ (pins : List (Addr × Obj)) (s : Shared) (σ : St) (H : Hp) (x : V) (v : Value) (Q : VK), Inv X pins σ H s → RelV x v → r x H Q →
    wpAny (model X.prog X.w) X.A (f v) (EP X pins σ Q) X.xe s
def CallR (X : Cx) (f : Value) (r : List V → Hp → VK → Prop) : Prop :=
  ∀ (pins : List (Addr × Obj)) (s : Shared) (σ : St) (H : Hp) (xs : List V) (us : List Value) (Q : VK), Inv X pins σ H s → Vals xs us → r xs H Q →
    wpAny (model X.prog X.w) X.A (call f us) (EP X pins σ Q) X.xe s
def tOp (r : R2) (ta tb : TE) : TE := fun σ H Q => ta σ H fun x H1 => tb σ H1 fun y H2 => r x y H2 Q
def tUn (r : V → Hp → VK → Prop) (ta : TE) : TE := fun σ H Q => ta σ H fun x H1 => r x H1 Q
def rI (C : Int → Int → Prop) (g : Int → Int → V) : R2 := fun x y H Q => ∃ i j, x = .int i ∧ y = .int j ∧ C i j ∧ Q (g i j) H
def rI0 (g : Int → Int → V) : R2 := fun x y H Q => ∃ i j, x = .int i ∧ y = .int j ∧ Q (g i j) H
def rU (g : Int → V) : V → Hp → VK → Prop := fun x H Q => ∃ i, x = .int i ∧ Q (g i) H

section
variable {X : Cx} {a b c : Expr} {ta tb tc : TE} {pos : Pos}

theorem binT (ha : PE X a ta) (hb : PE X b tb) {pins : List (Addr × Obj)} {s : Shared} {σ : St} {H : Hp} {R : V → V → Hp → Prop} (I : Inv X pins σ H s)
    (h : ta σ H fun x H1 => tb σ H1 fun y H2 => R x y H2) {Q : Value → Shared → Prop} {f : Value → Value → Sem Value}
    (hf : ∀ v u s2 x y H2, Inv X pins σ H2 s2 → RelV x v → RelV y u → R x y H2 → wpAny (model X.prog X.w) X.A (f v u) Q X.xe s2) :
    wpAny (model X.prog X.w) X.A (eval a X.env) (fun v s₁ => wpAny (model X.prog X.w) X.A (eval b X.env) (fun u s₂ => wpAny (model X.prog X.w) X.A (f v u) Q X.xe s₂) X.xe s₁) X.xe s := by
  refine thn (ha pins s σ H _ I h) fun v s1 ⟨x, H1, I1, r1, q1⟩ => ?_
  refine thn (hb pins s1 σ H1 _ I1 q1) fun u s2 ⟨y, H2, I2, r2, q2⟩ => ?_
  exact hf v u s2 x y H2 I2 r1 r2 q2

theorem pe_op {op : Operator} {r : R2} (ho : OpR X (binaryOp op) r) (ha : PE X a ta) (hb : PE X b tb) : PE X (.BinOp a op b pos) (tOp r ta tb) := by
  intro pins s σ H Q I h
  exact wpAny_BinOp (binT ha hb I h fun v u s2 x y H2 I2 rx ry q => ho pins s2 σ H2 x y v u Q I2 rx ry q)
theorem pe_un {op : UnaryOp} {r : V → Hp → VK → Prop} (ho : UnR X (unaryOp op) r) (ha : PE X a ta) : PE X (.UnaryOp op a pos) (tUn r ta) := by
  intro pins s σ H Q I h
  exact UnaryOp_ (thn (ha pins s σ H _ I h) fun v s1 ⟨x, H1, I1, r1, q1⟩ => ho pins s1 σ H1 x v Q I1 r1 q1)
/-! ### ints -/
theorem opI {f : Value → Value → Sem Value} {C : Int → Int → Prop} {g : Int → Int → Int}
    (rule : ∀ (i j : Int) (t u : Tok) (s : Shared) (Q : Value → Shared → Prop) (E : Value → Shared → Prop), C i j → Q (.int (g i j) s.toks) { s with toks := s.toks + 1 } → wpAny (model X.prog X.w) X.A (f (.int i t) (.int j u)) Q E s) :
    OpR X f (rI C fun i j => .int (g i j)) := by
  intro pins s σ H x y v u Q I rx ry h
  obtain ⟨i, j, rfl, rfl, hc, q⟩ := h
  obtain ⟨t, rfl⟩ := rx
  obtain ⟨t', rfl⟩ := ry
  exact rule i j t t' s _ _ hc ⟨.int (g i j), H, I.tok _, ⟨_, rfl⟩, q⟩
theorem opI0 {f : Value → Value → Sem Value} {g : Int → Int → Int}
    (rule : ∀ (i j : Int) (t u : Tok) (s : Shared) (Q : Value → Shared → Prop) (E : Value → Shared → Prop), Q (.int (g i j) s.toks) { s with toks := s.toks + 1 } → wpAny (model X.prog X.w) X.A (f (.int i t) (.int j u)) Q E s) :
    OpR X f (rI0 fun i j => .int (g i j)) := by
  intro pins s σ H x y v u Q I rx ry h
  obtain ⟨i, j, rfl, rfl, q⟩ := h
  obtain ⟨t, rfl⟩ := rx
  obtain ⟨t', rfl⟩ := ry
  exact rule i j t t' s _ _ ⟨.int (g i j), H, I.tok _, ⟨_, rfl⟩, q⟩
theorem opB0 {f : Value → Value → Sem Value} {g : Int → Int → Bool}
    (rule : ∀ (i j : Int) (t u : Tok) (s : Shared) (Q : Value → Shared → Prop) (E : Value → Shared → Prop), Q (.bool (g i j)) s → wpAny (model X.prog X.w) X.A (f (.int i t) (.int j u)) Q E s) :
    OpR X f (rI0 fun i j => .bl (g i j)) := by
  intro pins s σ H x y v u Q I rx ry h
  obtain ⟨i, j, rfl, rfl, q⟩ := h
  obtain ⟨t, rfl⟩ := rx
  obtain ⟨t', rfl⟩ := ry
  exact rule i j t t' s _ _ ⟨.bl (g i j), H, I, rfl, q⟩

def CDiv (i j : Int) : Prop := 0 < j ∧ j < 1073741824
def CPow (i j : Int) : Prop := 0 ≤ j ∧ j ≤ 1000000 ∧ i.natAbs < 2 ^ 64
def CMul (i j : Int) : Prop := (-(2 ^ 64) < i ∧ i < 2 ^ 64) ∨ (-(2 ^ 64) < j ∧ j < 2 ^ 64)
theorem CMul.ok {i j : Int} (h : CMul i j) : IntMulOk i j := by
  rcases h with ⟨h1, h2⟩ | ⟨h1, h2⟩
  · exact .of_left (intBits_le_64 h1 h2)
  · exact .of_right (intBits_le_64 h1 h2)
theorem two_pow_nn (k : Nat) : (0 : Int) ≤ 2 ^ k := by
  rw [two_pow_cast]
  exact Int.natCast_nonneg _

theorem op_add : OpR X (binaryOp .Add) (rI0 fun i j => .int (i + j)) := opI0 fun _ _ _ _ _ _ _ q => add_int q
theorem op_sub : OpR X (binaryOp .Sub) (rI0 fun i j => .int (i - j)) := opI0 fun _ _ _ _ _ _ _ q => sub_int q
theorem op_mul : OpR X (binaryOp .Mult) (rI CMul fun i j => .int (i * j)) := opI fun _ _ _ _ _ _ _ hc q => mul_int q hc.ok
theorem op_fdiv : OpR X (binaryOp .FloorDiv) (rI CDiv fun i j => .int (i / j)) := opI fun i j _ _ _ _ _ hc q => by
  have h1 : (0 : Int) < j := hc.1
  have h2 : j < 1073741824 := hc.2
  exact floordiv_int (by omega) (by rw [Int.fdiv_eq_ediv_of_nonneg i (by omega)]; exact q) (.inl (PyProof.noPylong_small (by omega)))
theorem op_mod : OpR X (binaryOp .Mod) (rI (fun _ j => 0 < j) fun i j => .int (i % j)) := opI fun i j _ _ _ _ _ hc q => by
  have h1 : (0 : Int) < j := hc
  exact mod_int' (by omega) (by rw [Int.fmod_eq_emod_of_nonneg i (by omega)]; exact q)
theorem op_pow : OpR X (binaryOp .Pow) (rI CPow fun i j => .int (i ^ j.toNat)) := opI fun _ _ _ _ _ _ _ hc q => pow_int_small hc.1 hc.2.1 hc.2.2 q
theorem op_shr : OpR X (binaryOp .RShift) (rI (fun _ j => 0 ≤ j) fun i j => .int (i / 2 ^ j.toNat)) := opI fun i j _ _ _ _ _ hc q =>
  rshift_int hc (by rw [Int.fdiv_eq_ediv_of_nonneg i (two_pow_nn _)]; exact q)
theorem op_and : OpR X (binaryOp .BitAnd) (rI0 fun i j => .int (Builtin.bitAnd i j)) := opI0 fun _ _ _ _ _ _ _ q => and_int q
theorem op_or : OpR X (binaryOp .BitOr) (rI0 fun i j => .int (Builtin.bitOr i j)) := opI0 fun _ _ _ _ _ _ _ q => or_int q
theorem op_xor : OpR X (binaryOp .BitXor) (rI0 fun i j => .int (Builtin.bitXor i j)) := opI0 fun _ _ _ _ _ _ _ q => xor_int q

theorem unI {f : Value → Sem Value} {g : Int → Int}
    (rule : ∀ (i : Int) (t : Tok) (s : Shared) (Q : Value → Shared → Prop) (E : Value → Shared → Prop), Q (.int (g i) s.toks) { s with toks := s.toks + 1 } → wpAny (model X.prog X.w) X.A (f (.int i t)) Q E s) :
    UnR X f (rU fun i => .int (g i)) := by
  intro pins s σ H x v Q I rx h
  obtain ⟨i, rfl, q⟩ := h
  obtain ⟨t, rfl⟩ := rx
  exact rule i t s _ _ ⟨.int (g i), H, I.tok _, ⟨_, rfl⟩, q⟩
theorem un_neg : UnR X (unaryOp .USub) (rU fun i => .int (-i)) := unI fun _ _ _ _ _ q => neg_int q
/-! ### bools among ints: n += (a < b) -/
end

/-! ### comparisons -/
def scal : V → V → Bool
  | .non, .non => true | .non, .int _ => true | .int _, .non => true | .non, .bl _ => true | .bl _, .non => true | .non, .str _ => true | .str _, .non => true
  | .int _, .int _ => true | .bl _, .bl _ => true | .str _, .str _ => true | .byt _, .byt _ => true
  | .int _, .str _ => true | .str _, .int _ => true | .bl _, .str _ => true | .str _, .bl _ => true
  | _, _ => false
def rEq : R2 := fun x y H Q => scal x y = true ∧ Q (.bl (decide (x = y))) H
def rNe : R2 := fun x y H Q => scal x y = true ∧ Q (.bl (!decide (x = y))) H

theorem dec_int {i j : Int} : decide (V.int i = V.int j) = (i == j) := by
  rw [Bool.eq_iff_iff]
  simp
theorem dec_bl {i j : Bool} : decide (V.bl i = V.bl j) = (i == j) := by
  rw [Bool.eq_iff_iff]
  simp
theorem dec_str {i j : Str} : decide (V.str i = V.str j) = (i == j) := by
  rw [Bool.eq_iff_iff]
  simp
theorem dec_byt {i j : Array UInt8} : decide (V.byt i = V.byt j) = (i.toList == j.toList) := by
  rw [Bool.eq_iff_iff]
  cases i
  cases j
  simp

section
variable {X : Cx} {a b c : Expr} {ta tb tc : TE} {pos : Pos}
theorem fin_bl {pins : List (Addr × Obj)} {σ : St} {H : Hp} {s : Shared} {Q : VK} {k k' : Bool} (I : Inv X pins σ H s) (q : Q (.bl k) H) (e : k = k') : EP X pins σ Q (.bool k') s := by
  subst e
  exact ⟨.bl k, H, I, rfl, q⟩
theorem op_eq : OpR X (compareOp .Eq) rEq := by
  intro pins s σ H x y v u Q I rx ry h
  obtain ⟨hs, q⟩ := h
  cases x with
  | non =>
    cases rx
    cases y with
    | non => cases ry; exact PySem.EqNone.eq_none_none (fin_bl I q (by simp))
    | bl j => cases ry; exact PySem.EqNone.eq_none_bool (fin_bl I q (by simp))
    | int j => obtain ⟨t', rfl⟩ := ry; exact PySem.EqNone.eq_none_int (fin_bl I q (by simp))
    | str j => obtain ⟨t', rfl⟩ := ry; exact PySem.EqNone.eq_none_str (fin_bl I q (by simp))
    | _ => exact absurd (show false = true from hs) Bool.false_ne_true
  | bl i =>
    cases rx
    cases y with
    | non => cases ry; exact PySem.EqNone.eq_bool_none (fin_bl I q (by simp))
    | bl j => cases ry; exact eq_bool (fin_bl I q dec_bl)
    | str j => obtain ⟨t', rfl⟩ := ry; exact PySem.EqMixed.eq_bool_str (fin_bl I q (by simp))
    | _ => exact absurd (show false = true from hs) Bool.false_ne_true
  | int i =>
    obtain ⟨t, rfl⟩ := rx
    cases y with
    | non => cases ry; exact PySem.EqNone.eq_int_none (fin_bl I q (by simp))
    | int j => obtain ⟨t', rfl⟩ := ry; exact eq_int (fin_bl I q dec_int)
    | str j => obtain ⟨t', rfl⟩ := ry; exact PySem.EqMixed.eq_int_str (fin_bl I q (by simp))
    | _ => exact absurd (show false = true from hs) Bool.false_ne_true
  | str i =>
    obtain ⟨t, rfl⟩ := rx
    cases y with
    | non => cases ry; exact PySem.EqNone.eq_str_none (fin_bl I q (by simp))
    | bl j => cases ry; exact PySem.EqMixed.eq_str_bool (fin_bl I q (by simp))
    | int j => obtain ⟨t', rfl⟩ := ry; exact PySem.EqMixed.eq_str_int (fin_bl I q (by simp))
    | str j => obtain ⟨t', rfl⟩ := ry; exact eq_str (fin_bl I q dec_str)
    | _ => exact absurd (show false = true from hs) Bool.false_ne_true
  | byt i =>
    obtain ⟨t, rfl⟩ := rx
    cases y with
    | byt j => obtain ⟨t', rfl⟩ := ry; exact PySem.W.eq_bytes (fin_bl I q dec_byt)
    | _ => exact absurd (show false = true from hs) Bool.false_ne_true
  | _ => cases y <;> exact absurd (show false = true from hs) Bool.false_ne_true
theorem op_ne : OpR X (compareOp .NotEq) rNe := by
  intro pins s σ H x y v u Q I rx ry h
  obtain ⟨hs, q⟩ := h
  cases x with
  | non =>
    cases rx
    cases y with
    | non => cases ry; exact PySem.EqNone.ne_none_none (fin_bl I q (by simp))
    | bl j => cases ry; exact PySem.EqNone.ne_none_bool (fin_bl I q (by simp))
    | int j => obtain ⟨t', rfl⟩ := ry; exact PySem.EqNone.ne_none_int (fin_bl I q (by simp))
    | str j => obtain ⟨t', rfl⟩ := ry; exact PySem.EqNone.ne_none_str (fin_bl I q (by simp))
    | _ => exact absurd (show false = true from hs) Bool.false_ne_true
  | bl i =>
    cases rx
    cases y with
    | non => cases ry; exact PySem.EqNone.ne_bool_none (fin_bl I q (by simp))
    | bl j => cases ry; exact ne_bool (fin_bl I q (congrArg not dec_bl))
    | str j => obtain ⟨t', rfl⟩ := ry; exact PySem.EqMixed.ne_bool_str (fin_bl I q (by simp))
    | _ => exact absurd (show false = true from hs) Bool.false_ne_true
  | int i =>
    obtain ⟨t, rfl⟩ := rx
    cases y with
    | non => cases ry; exact PySem.EqNone.ne_int_none (fin_bl I q (by simp))
    | int j => obtain ⟨t', rfl⟩ := ry; exact ne_int (fin_bl I q (congrArg not dec_int))
    | str j => obtain ⟨t', rfl⟩ := ry; exact PySem.EqMixed.ne_int_str (fin_bl I q (by simp))
    | _ => exact absurd (show false = true from hs) Bool.false_ne_true
  | str i =>
    obtain ⟨t, rfl⟩ := rx
    cases y with
    | non => cases ry; exact PySem.EqNone.ne_str_none (fin_bl I q (by simp))
    | bl j => cases ry; exact PySem.EqMixed.ne_str_bool (fin_bl I q (by simp))
    | int j => obtain ⟨t', rfl⟩ := ry; exact PySem.EqMixed.ne_str_int (fin_bl I q (by simp))
    | str j => obtain ⟨t', rfl⟩ := ry; exact ne_str (fin_bl I q (congrArg not dec_str))
    | _ => exact absurd (show false = true from hs) Bool.false_ne_true
  | byt i =>
    obtain ⟨t, rfl⟩ := rx
    cases y with
    | byt j => obtain ⟨t', rfl⟩ := ry; exact PySem.W.ne_bytes (fin_bl I q (congrArg not dec_byt))
    | _ => exact absurd (show false = true from hs) Bool.false_ne_true
  | _ => cases y <;> exact absurd (show false = true from hs) Bool.false_ne_true

theorem op_lt : OpR X (compareOp .Lt) (rI0 fun i j => .bl (decide (i < j))) := opB0 fun _ _ _ _ _ _ _ q => lt_int q
theorem op_le : OpR X (compareOp .LtE) (rI0 fun i j => .bl (decide (i ≤ j))) := opB0 fun _ _ _ _ _ _ _ q => le_int q
theorem op_gt : OpR X (compareOp .Gt) (rI0 fun i j => .bl (decide (j < i))) := opB0 fun _ _ _ _ _ _ _ q => gt_int q
theorem op_ge : OpR X (compareOp .GtE) (rI0 fun i j => .bl (decide (j ≤ i))) := opB0 fun _ _ _ _ _ _ _ q => ge_int q
theorem nomark (b : Expr) {op : CmpOp} (h : op ≠ .In := by decide) (h2 : op ≠ .NotIn := by decide) : behindInMarks op b = false := by
  have e1 : (op == CmpOp.In) = false := by cases op <;> first | rfl | exact absurd rfl h
  have e2 : (op == CmpOp.NotIn) = false := by cases op <;> first | rfl | exact absurd rfl h2
  cases b <;> simp [behindInMarks, e1, e2]
theorem pe_cmpR {op : CmpOp} {r : R2} (ho : OpR X (compareOp op) r) (ha : PE X a ta) (hb : PE X b tb) (hm : behindInMarks op b = false) : PE X (.Compare a [op] [b] pos) (tOp r ta tb) := by
  intro pins s σ H Q I h
  exact wpAny_Compare1 (binT ha hb I h fun v u s2 x y H2 I2 rx ry q => ho pins s2 σ H2 x y v u Q I2 rx ry q) hm
def tTest (t : TE) : TT := fun σ H Q => t σ H fun x H' => ∃ k, x = .bl k ∧ Q k H'
theorem pt_cmpR {op : CmpOp} {r : R2} (ho : OpR X (compareOp op) r) (ha : PE X a ta) (hb : PE X b tb) (hm : behindInMarks op b = false) : PT X (.Compare a [op] [b] pos) (tTest (tOp r ta tb)) := by
  intro pins s σ H Q I h
  refine wpAny_isTrue_Compare1 (thn (ha pins s σ H _ I h) fun v s1 ⟨x, H1, I1, r1, q1⟩ => thn (hb pins s1 σ H1 _ I1 q1) fun u s2 ⟨y, H2, I2, r2, q2⟩ =>
    thn (ho pins s2 σ H2 x y v u _ I2 r1 r2 q2) fun c s3 ⟨z, H3, I3, r3, k, e, q3⟩ => ?_) hm
  subst e
  cases r3
  exact wpAny_truthy_bool ⟨H3, I3, q3⟩
/-! ### truth -/
theorem line63 : (sizeLine : Nat) < 2 ^ 63 := by rw [sizeLine_eq]; decide
/-! ### strs and bytes -/
/-! ### scalar builtins, by CallR -/
theorem vals1 {x : V} {us : List Value} (r : Vals [x] us) : ∃ u, us = [u] ∧ RelV x u := by
  cases r with
  | cons r1 r2 => cases r2; exact ⟨_, rfl, r1⟩
theorem vals2 {x y : V} {us : List Value} (r : Vals [x, y] us) : ∃ u w', us = [u, w'] ∧ RelV x u ∧ RelV y w' := by
  cases r with
  | cons r1 r2 =>
    cases r2 with
    | cons r3 r4 => cases r4; exact ⟨_, _, rfl, r1, r3⟩
theorem call_abs : CallR X (.builtin "abs") (fun xs H Q => ∃ i, xs = [.int i] ∧ Q (.int (if i < 0 then -i else i)) H) := by
  intro pins s σ H xs us Q I r h
  obtain ⟨i, rfl, q⟩ := h
  obtain ⟨u, rfl, t, rfl⟩ := vals1 r
  exact call_abs_int fun u tk => ⟨.int (if i < 0 then -i else i), H, I.tok _, ⟨_, rfl⟩, q⟩
theorem call_max2 (hc : X.calm = true) : CallR X (.builtin "max") (fun xs H Q => ∃ i j, xs = [.int i, .int j] ∧ Q (.int (if j > i then j else i)) H) := by
  intro pins s σ H xs us Q I r h
  obtain ⟨i, j, rfl, q⟩ := h
  obtain ⟨u, w', rfl, ⟨t, rfl⟩, ⟨t', rfl⟩⟩ := vals2 r
  refine max_two_ints (I.ok.hd hc) fun h' tk k => ⟨_, H, I.kept k, ?_, q⟩
  by_cases hj : j > i
  · rw [if_pos hj, if_pos hj]; exact ⟨_, rfl⟩
  · rw [if_neg hj, if_neg hj]; exact ⟨_, rfl⟩
theorem call_min2 (hc : X.calm = true) : CallR X (.builtin "min") (fun xs H Q => ∃ i j, xs = [.int i, .int j] ∧ Q (.int (if j < i then j else i)) H) := by
  intro pins s σ H xs us Q I r h
  obtain ⟨i, j, rfl, q⟩ := h
  obtain ⟨u, w', rfl, ⟨t, rfl⟩, ⟨t', rfl⟩⟩ := vals2 r
  refine min_two_ints (I.ok.hd hc) fun h' tk k => ⟨_, H, I.kept k, ?_, q⟩
  by_cases hj : j < i
  · rw [if_pos hj, if_pos hj]; exact ⟨_, rfl⟩
  · rw [if_neg hj, if_neg hj]; exact ⟨_, rfl⟩
end
end L2

namespace L2
open PySem PySem.Spec PyProof.Rows

/-! ### an instance, its attributes a map -/
structure ObjM (h : Heap) (x dx C : Addr) (mA : Str → Option Value) : Prop where
  obj : h.get? x = some (PySem.W.instObj C dx)
  ns : h.Ns1 dx mA
  ne : dx ≠ x

theorem lookIn_ns {h : Heap} {dx : Addr} {mA : Str → Option Value} (n : h.Ns1 dx mA) : ∃ od, h.get? dx = some od ∧ ∀ name, PySem.W.lookIn name od = some (mA name) := by
  obtain ⟨o, es, ep, ho, hd, hk, _, hm⟩ := n
  refine ⟨o, ho, fun name => ?_⟩
  have e := hm name
  unfold nsFind findBy at e
  rw [← Array.find?_toList] at e
  unfold PySem.W.lookIn
  rw [hd]
  dsimp only
  split
  · rename_i y q
    rw [q] at e
    exact congrArg some e
  · rename_i q
    rw [q] at e
    have a : es.toList.any (·.refKey) = false := by
      rw [List.any_eq_false]
      intro y hy
      obtain ⟨z, t, hkey⟩ := hk y (Array.mem_toList_iff.mp hy)
      simp [DictEntry.refKey, hkey]
    have a' : ¬ es.toList.any (·.refKey) = true := by rw [a]; exact Bool.false_ne_true
    rw [if_neg a']
    exact congrArg some e

theorem ObjM.look {h : Heap} {x dx C : Addr} {mA : Str → Option Value} (I : ObjM h x dx C mA) : ∃ od, PySem.W.InstAt h x (PySem.W.instObj C dx) C (some od) ∧ ∀ name, PySem.W.lookIn name od = some (mA name) :=
  let ⟨od, ho, hl⟩ := lookIn_ns I.ns
  ⟨od, ⟨I.obj, rfl, rfl, ho⟩, hl⟩

section
variable {prog : Program} {w : World} {A : Around} {E : Value → Shared → Prop} {s : Shared} {K : PySem.W.Frag} {x dx C f : Addr} {mA : Str → Option Value} {name : Str} {v : Value}

end

/-! ### the attributes as a list of pairs -/
section
variable {P : Program} {w : World} {H H' : Hp} {h h' : Heap} {a C dx : Addr} {fs fs' : List (Str × V)}
theorem ins_get (hok : HOk P w H h) (e : H a = some (.ins C dx fs)) : ∃ mA, ObjM h a dx C mA ∧ (∀ f, RelO (fs.lookup f) (mA f)) ∧ PySem.Within mA (fs.map (·.1)) ∧ fs.length ≤ 1000 ∧ H dx = some (.own a) := by
  obtain ⟨d, z, ne, ob, mA, n, r, q⟩ := (show ObjOk P w H h a (.ins C dx fs) from hok a _ e)
  exact ⟨mA, ⟨ob, n, ne⟩, r, q, z, d⟩
end

/-! ### what of the text a class must have -/
structure Cls (K : PySem.W.Frag) (C : Addr) : Prop where
  pg : PySem.W.plainGet K C Str.empty = true
  hd : PySem.W.hasDictIn K C = true
  po : PySem.W.plainOver K C = true
  sa : PySem.W.findIn K (.ref C) "__setattr__" = some (some (.builtin "object.__setattr__"))
theorem Cls.get {K : PySem.W.Frag} {C : Addr} (c : Cls K C) (f : Str) : PySem.W.plainGet K C f = true := c.pg
section
variable {X : Cx} {pins : List (Addr × Obj)} {σ : St} {H : Hp} {s : Shared} {a C dx : Addr} {fs : List (Str × V)} {f : Str} {v : V} {A : Around} {E : Value → Shared → Prop}

end

/-! ### readings and rules -/
section
variable {X : Cx} {o e value : Expr} {f : Str} {pos pos' tpos : Pos} {ta tv : TE}
end

/-! ### isinstance -/
section
variable {X : Cx} {pins : List (Addr × Obj)} {σ : St} {H : Hp} {s : Shared} {A : Around} {E : Value → Shared → Prop} {Q : Value → Shared → Prop} {c : Value} {b : Bool}
inductive TyOf (K : PySem.W.Frag) (H : Hp) : V → Value → Prop where
  | non : TyOf K H .non (.type "NoneType")
  | bl (x : Bool) : TyOf K H (.bl x) (.type "bool")
  | int (i : Int) : TyOf K H (.int i) (.type "int")
  | str (x : Str) : TyOf K H (.str x) (.type "str")
  | flt (x : UInt64) : TyOf K H (.flt x) (.type "float")
  | lst {a : Addr} {xs : List V} (e : H a = some (.lst xs)) : TyOf K H (.ref a) (.type "list")
  | frz {a : Addr} {o : Obj} {xs : List V} (e : H a = some (.frz o (.lst xs))) : TyOf K H (.ref a) (.type "list")
  | tup {a : Addr} {xs : List V} (e : H a = some (.tup xs)) : TyOf K H (.ref a) (.type "tuple")
  | dK {a : Addr} {kvs : List (Key × V)} (e : H a = some (.dK kvs)) : TyOf K H (.ref a) (.type "dict")
  | dT {a : Addr} {kvs : List (List Key × V)} (e : H a = some (.dT kvs)) : TyOf K H (.ref a) (.type "dict")
  | ins {a C dx : Addr} {fs : List (Str × V)} (e : H a = some (.ins C dx fs)) (cl : Cls K C) (ha : PySem.W.findIn K (.ref C) "__class__" = some (some (.builtin "object.__class__")))
      (hn : PySem.W.specialIn K (.builtin "object.__class__") "__get__" = some (some (.builtin "getset_descriptor.__get__"))) (htk : PySem.W.takesIn K (.builtin "object.__class__") = some true)
      (hm : PySem.W.mroIn K C (.type "object") = some true) : TyOf K H (.ref a) (.ref C)
theorem isinst_ok {x : V} {u t : Value} (I : Inv X pins σ H s) (rx : RelV x u) (ty : TyOf X.K H x t) (e : PySem.W.kitOne X.K t c = some b) (h : ∀ tk, Q (.bool b) { s with toks := tk }) :
    wpAny (model X.prog X.w) A (call (.builtin "isinstance") [u, c]) Q E s := by
  cases ty with
  | non => cases (show u = Value.none from rx); exact PySem.W.kia_one PySem.W.kitx_none I.kIn True.intro e (fun z => nomatch z) h
  | bl y => cases (show u = Value.bool y from rx); exact PySem.W.kia_one PySem.W.kitx_bool I.kIn True.intro e (fun z => nomatch z) h
  | int i => obtain ⟨t, q⟩ := (show ∃ t, u = Value.int i t from rx); cases q; exact PySem.W.kia_one PySem.W.kitx_int I.kIn True.intro e (fun z => nomatch z) h
  | str y => obtain ⟨t, q⟩ := (show ∃ t, u = Value.str y t from rx); cases q; exact PySem.W.kia_one PySem.W.kitx_str I.kIn True.intro e (fun z => nomatch z) h
  | flt y => obtain ⟨t, q⟩ := (show ∃ t, u = Value.float y t from rx); cases q; exact PySem.W.kia_one PySem.W.kitx_float I.kIn True.intro e (fun z => nomatch z) h
  | @lst a xs ea =>
    cases (show u = Value.ref a from rx)
    obtain ⟨_, _, n, _, h1⟩ := (show ObjOk X.prog X.w H s.heap a (.lst xs) from I.hok a _ ea)
    exact PySem.W.kia_one PySem.W.kitx_list I.kIn ⟨_, h1, rfl⟩ e (fun z => nomatch z) h
  | @frz a ob xs ea =>
    cases (show u = Value.ref a from rx)
    obtain ⟨_, _, _, n, _, h1⟩ := (show ObjOk X.prog X.w H s.heap a (.frz ob (.lst xs)) from I.hok a _ ea)
    exact PySem.W.kia_one PySem.W.kitx_list I.kIn ⟨_, h1, rfl⟩ e (fun z => nomatch z) h
  | @tup a xs ea =>
    cases (show u = Value.ref a from rx)
    obtain ⟨_, _, _, p⟩ := (show ObjOk X.prog X.w H s.heap a (.tup xs) from I.hok a _ ea)
    obtain ⟨o, h1, h2, _⟩ := p
    exact PySem.W.kia_one PySem.W.kitx_tuple I.kIn ⟨o, h1, h2⟩ e (fun z => nomatch z) h
  | @dK a kvs ea =>
    cases (show u = Value.ref a from rx)
    obtain ⟨_, _, vs, _, p⟩ := (show ObjOk X.prog X.w H s.heap a (.dK kvs) from I.hok a _ ea)
    obtain ⟨o, es, ep, h1, h2, _⟩ := p
    exact PySem.W.kia_one PySem.W.kitx_dict I.kIn ⟨o, h1, h2.1⟩ e (fun z => nomatch z) h
  | @dT a kvs ea =>
    cases (show u = Value.ref a from rx)
    obtain ⟨_, _, xs, _, o, es, ep, h1, h2, _⟩ := (show ObjOk X.prog X.w H s.heap a (.dT kvs) from I.hok a _ ea)
    exact PySem.W.kia_one PySem.W.kitx_dict I.kIn ⟨o, h1, h2.1⟩ e (fun z => nomatch z) h
  | @ins a C dx fs ea cl ha hn htk hm =>
    cases (show u = Value.ref a from rx)
    obtain ⟨mA, O, _⟩ := ins_get I.hok ea
    obtain ⟨od, J, _⟩ := O.look
    exact PySem.W.kia_one (PySem.W.kitx_own (cl.get _) cl.hd ha hn htk hm) I.kIn J e (fun z => nomatch z) h
end
end L2

namespace L2
open PySem PySem.Spec PyProof.Rows

/-! ### room -/
structure Room (k : Nat) (A : Around) : Prop where
  hd : A.handled = none
  dp : A.depth + 3 * k + 5 < recursionLimit
  un : A.units + 16 * k + 200 < cLine
theorem Room.mono {j k : Nat} {A : Around} (r : Room k A) (h : j ≤ k) : Room j A := ⟨r.hd, by have := r.dp; omega, by have := r.un; omega⟩
theorem Room.deeper {k : Nat} {A : Around} (r : Room (k + 1) A) (env : Env) : Room k (A.deeper env) :=
  ⟨r.hd, by have := r.dp; show A.depth + 1 + 3 * k + 5 < _; omega, by have := r.un; show A.units + 3 + 16 * k + 200 < _; omega⟩
theorem Room.depth {k : Nat} {A : Around} (r : Room k A) : A.depth < recursionLimit := by have := r.dp; omega
theorem Room.units {k : Nat} {A : Around} (r : Room k A) : A.units + 64 < cLine := by have := r.un; omega
/-! ### argument lists and displays -/
def tNil : TA := fun _ H Q => Q [] H
def tCons (ta : TE) (tr : TA) : TA := fun σ H Q => ta σ H fun x H1 => tr σ H1 fun xs H2 => Q (x :: xs) H2
section
variable {X : Cx} {e : Expr} {es : List Expr} {te : TE} {t : TA} {pos : Pos}
theorem pa_nil : PA X [] tNil := fun _ _ _ _ H Q I h => Calls.spliced_nil ⟨[], H, I, .nil, h⟩
theorem pa_cons (ha : PE X e te) (hr : PA X es t) (hs : starEach (e :: es) X.env = (false, eval e X.env) :: starEach es X.env := by rfl) : PA X (e :: es) (tCons te t) := by
  intro pos pins s σ H Q I h
  rw [hs]
  show wpAny _ _ (spliced ((false, eval e X.env) :: backTo pos (starEach es X.env))) _ _ s
  refine Calls.spliced_cons (thn (ha pins s σ H _ I h) fun u s1 ⟨x, H1, I1, r1, q1⟩ => ?_)
  exact thn (hr pos pins s1 σ H1 _ I1 q1) fun us s2 ⟨xs, H2, I2, r2, q2⟩ => ⟨x :: xs, H2, I2, .cons r1 r2, q2⟩

def tTup (t : TA) : TE := fun σ H Q => t σ H fun xs H1 => xs.length ≤ sizeLine ∧ ∀ p, H1 p = none → Q (.ref p) (upd H1 p (.tup xs))
def tLst (t : TA) : TE := fun σ H Q => t σ H fun xs H1 => xs.length ≤ sizeLine ∧ ∀ p, H1 p = none → Q (.ref p) (upd H1 p (.lst xs))
theorem pe_tup {x1} (h : PA X es t) : PE X (.Tuple es x1 pos) (tTup t) := by
  intro pins s σ H Q I hq
  refine wpAny_Tuple_spliced (thn (h pos pins s σ H _ I hq) fun us s1 ⟨xs, H1, I1, r, z, q⟩ => ⟨by rw [← r.length]; exact z, ?_⟩)
  have hf : H1 s1.heap.objs.size = none := I1.hok.fresh (Nat.le_refl _)
  refine ⟨.ref s1.heap.objs.size, upd H1 s1.heap.objs.size (.tup xs), I1.laid (t' := s1.toks) (fun b u e => Heap.get?_push_of_some _ e) (Nat.le_refl _) ?_, rfl, q _ hf⟩
  exact ⟨z, us, r, ⟨_, Heap.get?_push_size _ rfl, rfl, _, rfl⟩⟩
theorem pe_lst (h : PA X es t) : PE X (.List es pos) (tLst t) := by
  intro pins s σ H Q I hq
  refine wpAny_List_spliced (thn (h pos pins s σ H _ I hq) fun us s1 ⟨xs, H1, I1, r, z, q⟩ => ⟨by rw [← r.length]; exact z, ?_⟩)
  have hf : H1 s1.heap.objs.size = none := I1.hok.fresh (Nat.le_refl _)
  refine ⟨.ref s1.heap.objs.size, upd H1 s1.heap.objs.size (.lst xs), I1.laid (t' := s1.toks) (fun b u e => Heap.get?_push_of_some _ e) (Nat.le_refl _) ?_, rfl, q _ hf⟩
  exact ⟨z, us, 0, r, Heap.get?_push_size _ rfl⟩
end

/-! ### what a def promises -/
abbrev Sp := List V → Hp → VK → XK → Prop
abbrev CXT := List Env → Hp → Shared → XK → Value → Shared → Prop

structure Env0 (P : Program) (w : World) (K : PySem.W.Frag) (mg : Str → Option Value) (base : Heap) (A : Around) (outer : List Env) (s : Shared) (H : Hp) : Prop where
  frames : A.frames = some outer
  mod : Mod K mg base
  bs : ∀ b o, base.get? b = some o → s.heap.get? b = some o ∧ H b = none
  bsz : base.objs.size ≤ s.heap.objs.size
  funs : s.heap.FunFrames base outer
  frf : ∀ b ∈ frs outer, H b = none
  hok : HOk P w H s.heap
  bare : AllBare s.gens
def CE (outer : List Env) (P : Program) (w : World) (H : Hp) (s : Shared) (Q : VK) (u : Value) (s' : Shared) : Prop :=
  ∃ v H', s'.os = s.os ∧ AllBare s'.gens ∧ Un (frs outer) [] H H' s.heap s'.heap ∧ HOk P w H' s'.heap ∧ RelV v u ∧ Q v H'
def CR (CX : CXT) (outer : List Env) (P : Program) (w : World) (H : Hp) (s : Shared) (Q : VK) (E : XK) (r : Result) (s' : Shared) : Prop :=
  match r with
  | .ok (.ret u) => CE outer P w H s Q u s'
  | .ok _ => False
  | .error e => CX outer H s E e s'
structure FnOk (P : Program) (w : World) (K : PySem.W.Frag) (mg : Str → Option Value) (base : Heap) (CX : CXT) (k : Nat) (f : Addr) (fd : FuncData) (ps : List Str) (sp : Sp) : Prop where
  len : ∀ vs H Q E, sp vs H Q E → vs.length = ps.length
  run : ∀ (A : Around) (outer : List Env) (s : Shared) (H : Hp) (args : Args) (us : List Value) (vs : List V) (Q : VK) (E : XK), Room k A → Env0 P w K mg base A outer s H → BindsTo s fd args (ps.zip us) → Vals vs us → sp vs H Q E →
    codeAny (model P w) A (.call (.ref f) args) (CR CX outer P w H s Q E) s
theorem FnOk.mono {P : Program} {w : World} {K : PySem.W.Frag} {mg : Str → Option Value} {base : Heap} {CX : CXT} {j k : Nat} {f : Addr} {fd : FuncData} {ps : List Str} {sp : Sp} (F : FnOk P w K mg base CX j f fd ps sp) (h : j ≤ k) :
    FnOk P w K mg base CX k f fd ps sp := ⟨F.len, fun A outer s H args us vs Q E hr => F.run A outer s H args us vs Q E (hr.mono h)⟩
theorem FnOk.imp {P : Program} {w : World} {K : PySem.W.Frag} {mg : Str → Option Value} {base : Heap} {CX : CXT} {k : Nat} {f : Addr} {fd : FuncData} {ps : List Str} {sp sp' : Sp} (F : FnOk P w K mg base CX k f fd ps sp)
    (h : ∀ vs H Q E, sp' vs H Q E → sp vs H Q E) : FnOk P w K mg base CX k f fd ps sp' :=
  ⟨fun vs H Q E q => F.len vs H Q E (h _ _ _ _ q), fun A outer s H args us vs Q E hr he hb hv hs => F.run A outer s H args us vs Q E hr he hb hv (h _ _ _ _ hs)⟩

section
variable {X : Cx} {pins : List (Addr × Obj)} {σ : St} {H : Hp} {s s' : Shared}
theorem Inv.env0 (I : Inv X pins σ H s) : Env0 X.prog X.w X.K X.mg X.base X.A X.stack s H :=
  ⟨I.ok.frames, I.ok.mod, I.bs, Nat.le_trans I.ok.bsz I.sz, I.stack, I.stkFree, I.hok, I.bare⟩
theorem Inv.after {Q : VK} {u : Value} (I : Inv X pins σ H s) (h : CE X.stack X.prog X.w H s Q u s') : EP X pins σ Q u s' := by
  obtain ⟨v, H', os, bare, un, hok, r, q⟩ := h
  obtain ⟨hh, g, d, t, os'⟩ := s'
  obtain rfl : os' = s.os := os
  exact ⟨v, H', I.call (h' := hh) (g' := g) (d' := d) (t' := t) (ch := []) un hok bare (fun b z => absurd z (by simp)), r, q⟩
end

/-! ### calls -/
def tCall (sp : Sp) (dvs : List V) (E : XK) (t : TA) : TE := fun σ H Q => t σ H fun vs H1 => sp (vs ++ dvs) H1 Q E
def Binds (K : PySem.W.Frag) (fd : FuncData) (ps : List Str) (ds : List Value) : Prop :=
  ∀ (s : Shared) (us : List Value), K.In s.heap → (us ++ ds).length = ps.length → BindsTo s fd ⟨us, []⟩ (ps.zip (us ++ ds))
theorem Binds.all {K : PySem.W.Frag} {fd : FuncData} {ps : List Str} (h : ∀ us : List Value, us.length = ps.length → bindArgs fd ⟨us, []⟩ = pure (ps.zip us)) : Binds K fd ps [] := fun s us _ hl => by
  rw [List.append_nil] at hl ⊢
  exact .of_eq (h us hl)

def Passes (CX : CXT) (X : Cx) (E : XK) : Prop := ∀ (pins : List (Addr × Obj)) (σ : St) (H : Hp) (s : Shared) (e : Value) (s' : Shared), Inv X pins σ H s → CX X.stack H s E e s' → X.xe e s'

section
variable {X : Cx} {CX : CXT} {k : Nat} {f C : Addr} {fd : FuncData} {ps : List Str} {sp : Sp} {dvs : List V} {ds : List Value} {E : XK} {x m : Str} {p pos apos : Pos} {e o : Expr} {es : List Expr} {ta : TE} {t : TA}

theorem run_fn {pins : List (Addr × Obj)} {σ : St} {H : Hp} {s : Shared} {Q : VK} {us : List Value} {vs : List V} (F : FnOk X.prog X.w X.K X.mg X.base CX k f fd ps sp) (hr : Room k X.A) (hb : Binds X.K fd ps ds) (hd : Vals dvs ds) (hx : Passes CX X E)
    (I : Inv X pins σ H s) (r : Vals vs us) (h : sp (vs ++ dvs) H Q E) : wpAny (model X.prog X.w) X.A (call (.ref f) us) (EP X pins σ Q) X.xe s := by
  have r2 : Vals (vs ++ dvs) (us ++ ds) := r.append hd
  have hl : (us ++ ds).length = ps.length := by rw [← r2.length]; exact F.len _ _ _ _ h
  refine wpAny_call (codeAny_mono (F.run X.A X.stack s H ⟨us, []⟩ (us ++ ds) (vs ++ dvs) Q E hr I.env0 (hb s us I.kIn hl) r2 h) fun r s' hq => ?_)
  cases r with
  | error e => exact hx pins σ H s e s' I hq
  | ok fl =>
    cases fl with
    | ret u => exact I.after hq
    | next => exact False.elim hq
    | brk => exact False.elim hq
    | cont => exact False.elim hq

theorem pe_call (F : FnOk X.prog X.w X.K X.mg X.base CX k f fd ps sp) (hr : Room k X.A) (hg : Gl X x) (hm : X.mg x = some (.ref f)) (hk : PySem.W.keepIn X.K (.ref f) = true) (hb : Binds X.K fd ps ds) (hd : Vals dvs ds) (hx : Passes CX X E)
    (ha : PA X (e :: es) t) (hdb : (x == ("__debug__" : Str)) = false := by decide) (he : starEach (e :: es) X.env = (false, eval e X.env) :: starEach es X.env := by rfl) (hpl : (backTo pos (starEach es X.env)).any (·.1) = false := by rfl) :
    PE X (.Call (.Name x p) (e :: es) [] pos) (tCall sp dvs E t) := by
  intro pins s σ H Q I h
  refine wpAny_Call_Name_kw (ld_glob I hg hm ?_ hdb)
  refine PySem.W.callWith_K (h₀ := X.base) I.ok.mod.kin hk (thn (ha pos pins s σ H _ I h) fun us s1 ⟨vs, H1, I1, r, q⟩ => ⟨I1.kIn, ?_⟩) he hpl
  exact run_fn F hr hb hd hx I1 r q
end

/-! ### keywords -/
section
variable {X : Cx} {CX : CXT} {k : Nat} {f C : Addr} {fd : FuncData} {ps ks : List Str} {sp : Sp} {E : XK} {x m : Str} {p pos apos kpos : Pos} {e o : Expr} {es : List Expr} {kws : List Keyword} {te ta : TE} {t tk : TA} {nm : Option Str}
variable {g : List Value → List Value → List Value} {gV : List V → List V → List V}
end

/-! ### a def's body keeps its promise -/
structure FnScope (N P : List Str) (sc : Scope) : Prop where
  kind : sc.kind = .function
  co : sc.isCoroutine = false
  gen : sc.isGenerator = false
  nd : N.Nodup
  pre : N.take P.length = P
  par : ∀ x ∈ P, sc.names.lookup x = some .local ∨ sc.names.lookup x = some .cell
  nofree : ∀ y ∈ sc.names, y.2 ≠ .free

theorem bindL_out {kindOf : Str → Option NameKind} {x : Str} : ∀ {binds : List (Str × Value)} {m : Str → Option Value}, (∀ v, (x, v) ∉ binds) → bindL kindOf binds m x = m x
  | [], _, _ => rfl
  | (n, v) :: r, m, h => by
    unfold bindL
    rw [bindL_out fun w hw => h w (List.mem_cons_of_mem _ hw)]
    split
    · have : x ≠ n := by rintro rfl; exact h v List.mem_cons_self
      simp [this]
    · rfl
theorem bindC_out {kindOf : Str → Option NameKind} {x : Str} : ∀ {binds : List (Str × Value)} {m : Str → Option Value}, (∀ v, (x, v) ∉ binds) → bindC kindOf binds m x = m x
  | [], _, _ => rfl
  | (n, v) :: r, m, h => by
    unfold bindC
    rw [bindC_out fun w hw => h w (List.mem_cons_of_mem _ hw)]
    split
    · rfl
    · have : x ≠ n := by rintro rfl; exact h v List.mem_cons_self
      simp [this]
theorem bindL_get {kindOf : Str → Option NameKind} {x : Str} {v : Value} : ∀ {P : List Str} {vs : List Value} {i : Nat} {m : Str → Option Value}, P.Nodup → P[i]? = some x → vs[i]? = some v → kindOf x = some .local →
    bindL kindOf (P.zip vs) m x = some v
  | [], _, _, _, _, h, _, _ => by simp at h
  | _ :: _, [], _, _, _, _, h, _ => by simp at h
  | p :: P, w :: vs, 0, m, nd, h1, h2, hk => by
    simp at h1 h2; subst h1; subst h2
    show bindL kindOf ((p, w) :: P.zip vs) m p = _
    unfold bindL
    rw [bindL_out fun v hv => (List.nodup_cons.mp nd).1 (List.of_mem_zip hv).1, if_pos hk]
    simp
  | p :: P, w :: vs, i + 1, m, nd, h1, h2, hk => by
    show bindL kindOf ((p, w) :: P.zip vs) m x = _
    unfold bindL
    exact bindL_get (i := i) (List.nodup_cons.mp nd).2 (by simpa using h1) (by simpa using h2) hk
theorem bindC_get {kindOf : Str → Option NameKind} {x : Str} {v : Value} : ∀ {P : List Str} {vs : List Value} {i : Nat} {m : Str → Option Value}, P.Nodup → P[i]? = some x → vs[i]? = some v → kindOf x ≠ some .local →
    bindC kindOf (P.zip vs) m x = some v
  | [], _, _, _, _, h, _, _ => by simp at h
  | _ :: _, [], _, _, _, _, h, _ => by simp at h
  | p :: P, w :: vs, 0, m, nd, h1, h2, hk => by
    simp at h1 h2; subst h1; subst h2
    show bindC kindOf ((p, w) :: P.zip vs) m p = _
    unfold bindC
    rw [bindC_out fun v hv => (List.nodup_cons.mp nd).1 (List.of_mem_zip hv).1, if_neg hk]
    simp
  | p :: P, w :: vs, i + 1, m, nd, h1, h2, hk => by
    show bindC kindOf ((p, w) :: P.zip vs) m x = _
    unfold bindC
    exact bindC_get (i := i) (List.nodup_cons.mp nd).2 (by simpa using h1) (by simpa using h2) hk

def start (N : List Str) (vs : List V) : St := vs.map some ++ List.replicate (N.length - vs.length) none

def cxOf (CX : CXT) (P : Program) (w : World) (K : PySem.W.Frag) (mg : Str → Option Value) (base : Heap) (N : List Str) (qual : Str) (scope : Scope) (f : Addr) (cd : Value) (A : Around) (outer : List Env) (s : Shared) (H : Hp) (E : XK) : Cx where
  prog := P
  w := w
  K := K
  mg := mg
  base := base
  A := A.deeper (envOfC qual scope s.heap.objs.size f cd)
  N := N
  s₀ := s
  H₀ := H
  env := envOfC qual scope s.heap.objs.size f cd
  outer := outer
  stack := envOfC qual scope s.heap.objs.size f cd :: outer
  ex := []
  calm := true
  fn := fun _ => true
  pn := []
  xe := fun e s' => wpAny (model P w) (A.deeper (envOfC qual scope s.heap.objs.size f cd)) (leaving (envOfC qual scope s.heap.objs.size f cd) e) (fun _ s'' => CX outer H s E e s'') (fun e' s'' => CX outer H s E e' s'') s'

theorem cell_has {sc : Scope} {n : Nat} {x : Str} (h : sc.names.lookup x = some .cell) : ∃ c, (cellsFrom n sc.names []).lookup x = some c := by
  have q := PySem.W.cellsFrom_some sc.names n [] (.inl h)
  exact Option.isSome_iff_exists.mp q

theorem inv_start {CX : CXT} {P : Program} {w : World} {K : PySem.W.Frag} {mg : Str → Option Value} {base : Heap} {N ps : List Str} {qual : Str} {scope : Scope} {f : Addr} {cd : Value} {A : Around} {outer : List Env} {s s1 : Shared} {H : Hp} {E : XK} {us : List Value} {vs : List V}
    (S : FnScope N ps scope) (hd : A.handled = none) (e0 : Env0 P w K mg base A outer s H) (hl : vs.length = ps.length) (r : Vals vs us)
    (x : InCallC s s.heap.objs.size (bindL (envOfC qual scope s.heap.objs.size f cd).kindOf (ps.zip us) fun _ => none) (cellsFrom (s.heap.objs.size + 1) scope.names []) (bindC (envOfC qual scope s.heap.objs.size f cd).kindOf (ps.zip us) fun _ => none) s1) :
    Inv (cxOf CX P w K mg base N qual scope f cd A outer s H E) [] (start N vs) H s1 := by
  have hpl : ps.length ≤ N.length := by have := congrArg List.length S.pre; rw [List.length_take] at this; omega
  obtain ⟨h1, tk, rfl, hk⟩ := x.done
  have noA : ∀ b : Addr, b ∉ (cxOf CX P w K mg base N qual scope f cd A outer s H E).ex := fun b z => absurd (show b ∈ ([] : List Addr) from z) (by simp)
  refine ⟨⟨e0.mod, S.kind, rfl, rfl, Nat.le_refl _, fun y z c h1 h2 => ?_, fun y hy => ?_, fun y c _ h => ?_, fun _ => hd, Around.frames_deeper e0.frames, .inr ⟨rfl, rfl⟩, fun b z => absurd z (noA b), e0.bs, e0.bsz, fun b _ _ => noA b, fun b z => absurd z (noA b), e0.funs, e0.frf⟩,
    rfl, e0.bare, Un.kept hk, ⟨_, x.toInCall.ns, fun i y v h1 h2 h3 => ?_⟩, fun y c h => ⟨_, x.cell y c h⟩, e0.hok.fresh (Nat.le_refl _), fun y c h => ?_, fun p hp => absurd (show p ∈ ([] : List (Addr × Obj)) from hp) (by simp), e0.hok.kept hk, ?_⟩
  · exact name_of_addr x.apart (PySem.mem_of_lookup h1) (PySem.mem_of_lookup h2)
  · have hy : scope.names.lookup y = some .cell ∨ scope.names.lookup y = some .free := hy
    rcases hy with hy | hy
    · exact cell_has hy
    · exact absurd rfl (S.nofree _ (PySem.mem_of_lookup hy))
  · exact Nat.le_of_lt (x.above y c (PySem.mem_of_lookup h))
  · have hi : i < vs.length := by
      unfold start at h2
      by_cases hi : i < vs.length
      · exact hi
      · rw [List.getElem?_append_right (by simpa using hi)] at h2
        rw [List.getElem?_replicate] at h2
        split at h2 <;> cases h2
    have ha : vs[i]? = some v := by
      unfold start at h2
      rw [List.getElem?_append_left (by simpa using hi), List.getElem?_map] at h2
      cases e : vs[i]? with
      | none => rw [e] at h2; cases h2
      | some a => rw [e] at h2; cases h2; rfl
    obtain ⟨u, hu, rv⟩ := r.get ha
    have hp : ps[i]? = some y := by
      rw [← S.pre, List.getElem?_take_of_lt (by omega)]; exact h1
    have ndP : ps.Nodup := by rw [← S.pre]; exact S.nd.sublist (List.take_sublist _ _)
    refine ⟨u, rv, ?_⟩
    rcases S.par y (List.mem_of_getElem? hp) with k | k
    · exact .inl ⟨k, bindL_get ndP hp hu k⟩
    · obtain ⟨c, e⟩ := cell_has (n := s.heap.objs.size + 1) k
      refine .inr ⟨.inl k, c, e, ?_⟩
      have q := x.cell y c e
      rw [bindC_get ndP hp hu (by show scope.names.lookup y ≠ _; rw [k]; decide)] at q
      exact q
  · exact e0.hok.fresh (Nat.le_of_lt (x.above y c (PySem.mem_of_lookup h)))
  · unfold start
    show _ = N.length
    rw [List.length_append, List.length_map, List.length_replicate]
    omega

theorem fn_of {CX : CXT} {P : Program} {w : World} {K : PySem.W.Frag} {mg : Str → Option Value} {base : Heap} {k : Nat} {f : Addr} {name qual : Str} {params : Arguments} {body : List Stmt} {scope : Scope} {dV kV doc pm cdv ct oc : Value} {an od : Option Addr}
    {osl : Array (Option Value)} {N ps : List Str} {sp : Sp} (lk : K.lookup f = some ⟨oc, od, .func (PySem.W.fnOf name qual params body scope dV kV doc pm an cdv ct), osl⟩) (hcd : PySem.W.codeIn K cdv qual = true) (S : FnScope N ps scope)
    (len : ∀ vs H Q E, sp vs H Q E → vs.length = ps.length)
    (hbody : ∀ (A : Around) (outer : List Env) (s : Shared) (H : Hp) (vs : List V) (Q : VK) (E : XK), Room k (A.deeper (envOfC qual scope s.heap.objs.size f cdv)) → sp vs H Q E →
      ∃ t, PSs (cxOf CX P w K mg base N qual scope f cdv A outer s H E) body t ∧ t { nx := fun _ H' => Q .non H', rt := Q } (start N vs) H) :
    FnOk P w K mg base CX (k + 1) f (PySem.W.fnOf name qual params body scope dV kV doc pm an cdv ct) ps sp := by
  refine ⟨len, fun A outer s H args us vs Q E hr e0 hb r hsp => ?_⟩
  have hl := len _ _ _ _ hsp
  have KX : K.In s.heap := e0.mod.kin.keeps fun b o e => (e0.bs b o e).1
  have lim : s.heap.NoLimit := e0.mod.nolimit.keeps fun b o e => (e0.bs b o e).1
  have hkind : ∀ y ∈ ps.zip us, scope.names.lookup y.1 = some .local ∨ (scope.names.lookup y.1 = some .cell ∧ ((cellsFrom (s.heap.objs.size + 1) scope.names []).lookup y.1).isSome = true) := fun ⟨n, v⟩ hy => by
    rcases S.par n (List.of_mem_zip hy).1 with q | q
    · exact .inl q
    · exact .inr ⟨q, PySem.W.cellsFrom_some _ _ _ (.inl q)⟩
  refine codeAny_call_function hr.depth (KX _ _ lk) rfl S.co S.gen rfl (PySem.W.codeRec_of KX hcd) (hb _ _ _ _ ?_)
  refine wpAny_newFunctionEnv_cells S.kind hkind fun env he s1 x => ?_
  subst he
  refine ⟨lim.keeps x.toInCall.keep, codeAny_func ?_⟩
  obtain ⟨t, ht, hq⟩ := hbody A outer s H vs Q E (hr.deeper _) hsp
  have I : Inv (cxOf CX P w K mg base N qual scope f cdv A outer s H E) [] (start N vs) H s1 := inv_start S hr.hd e0 hl r x
  refine wpAny_mono (ht [] s1 (start N vs) H _ I hq) (fun fl s' hs => ?_) fun e s' hs => hs
  have fin : ∀ {σ' : St} {H' : Hp} {v : V} {u : Value}, Inv (cxOf CX P w K mg base N qual scope f cdv A outer s H E) [] σ' H' s' → RelV v u → Q v H' → CE outer P w H s Q u s' :=
    fun {σ' H' v u} J rv q => ⟨v, H', J.os, J.bare, J.base, J.hok, rv, q⟩
  cases fl with
  | ret u =>
    obtain ⟨v, σ', H', J, rv, q⟩ := hs
    exact fin J rv q
  | next =>
    obtain ⟨σ', H', J, q⟩ := hs
    exact fin (v := V.non) (u := Value.none) J rfl q
  | brk =>
    obtain ⟨_, _, _, q⟩ := hs
    exact False.elim q
  | cont =>
    obtain ⟨_, _, _, q⟩ := hs
    exact False.elim q
end L2

namespace L2
open PySem PySem.Spec PyProof.Rows
section
variable {X : Cx} {x : Str} {p pos : Pos} {e : Expr} {es : List Expr} {t : TA} {id T : String} {r : List V → Hp → VK → Prop}

def tCB (r : List V → Hp → VK → Prop) (t : TA) : TE := fun σ H Q => t σ H fun vs H1 => r vs H1 Q
theorem pe_callB (hc : CallR X (.builtin id) r) (hg : Gl X x) (hm : X.mg x = none) (hv : bootBuiltins x = some (.builtin id)) (ha : PA X (e :: es) t) (hn : x ≠ "__name__" := by decide) (hdb : (x == ("__debug__" : Str)) = false := by decide)
    (he : starEach (e :: es) X.env = (false, eval e X.env) :: starEach es X.env := by rfl) (hpl : (backTo pos (starEach es X.env)).any (·.1) = false := by rfl) : PE X (.Call (.Name x p) (e :: es) [] pos) (tCB r t) := by
  intro pins s σ H Q I h
  refine wpAny_Call_Name_kw (ld_blt I hg hm hv ?_ hn hdb)
  exact PyProof.Rows.callWith_builtin1 (thn (ha pos pins s σ H _ I h) fun us s1 ⟨vs, H1, I1, r1, q1⟩ => hc pins s1 σ H1 vs us Q I1 r1 q1) he hpl
theorem pe_callTy (hc : CallR X (.type T) r) (hg : Gl X x) (hm : X.mg x = none) (hv : bootBuiltins x = some (.type T)) (ha : PA X (e :: es) t) (hn : x ≠ "__name__" := by decide) (hdb : (x == ("__debug__" : Str)) = false := by decide)
    (he : starEach (e :: es) X.env = (false, eval e X.env) :: starEach es X.env := by rfl) (hpl : (backTo pos (starEach es X.env)).any (·.1) = false := by rfl) : PE X (.Call (.Name x p) (e :: es) [] pos) (tCB r t) := by
  intro pins s σ H Q I h
  refine wpAny_Call_Name_kw (ld_blt I hg hm hv ?_ hn hdb)
  exact PyProof.Rows.callWith_type1 (thn (ha pos pins s σ H _ I h) fun us s1 ⟨vs, H1, I1, r1, q1⟩ => hc pins s1 σ H1 vs us Q I1 r1 q1) he hpl
end
end L2

namespace HT
open PySem PyProof.Rows

section
open PySem.SeqAt
open PySem.AutoSeq1 (wpAny_loadPart')
open PySem.MeetsSeq PySem.MeetsSeq2 PySem.MeetsSeq3

end

section
variable {prog : Program} {w : World} {A : Around} {E : Value → Shared → Prop} {s : Shared}

/-! ### t[a:b], not the whole -/
def sIx (n d : Nat) : Option Int → Nat
  | none => d
  | some v => if v < 0 then (v + (n : Int)).toNat else min v.toNat n
theorem sIx_nat (n d k : Nat) : sIx n d (some (k : Int)) = min k n := by
  show (if (k : Int) < 0 then ((k : Int) + (n : Int)).toNat else min (k : Int).toNat n) = min k n
  rw [if_neg (by omega), Int.toNat_natCast]
theorem sIx_le (n d : Nat) (hd : d ≤ n) (o : Option Int) : sIx n d o ≤ n := by
  cases o with
  | none => exact hd
  | some v =>
    show (if v < 0 then (v + (n : Int)).toNat else min v.toNat n) ≤ n
    by_cases hv : v < 0
    · rw [if_pos hv]; omega
    · rw [if_neg hv]; exact Nat.min_le_right _ _
theorem clip_eq (v : Int) (n d : Nat) : (if v < 0 then max (v + (n : Int)) 0 else min v (n : Int)) = ((sIx n d (some v) : Nat) : Int) := by
  show (if v < 0 then max (v + (n : Int)) 0 else min v (n : Int)) = (((if v < 0 then (v + (n : Int)).toNat else min v.toNat n) : Nat) : Int)
  by_cases hv : v < 0
  · simp only [if_pos hv]; omega
  · simp only [if_neg hv]; omega
theorem adjust_gen (lo hi : Option Int) (n : Nat) : Builtin.Slice.sliceAdjust lo hi 1 (n : Int) = (((sIx n 0 lo : Nat) : Int), ((sIx n n hi : Nat) : Int)) := by
  have h1 : ¬ ((1 : Int) < 0) := by omega
  unfold Builtin.Slice.sliceAdjust
  simp only [h1, if_false]
  refine Prod.ext ?_ ?_
  · cases lo with
    | none => rfl
    | some v => exact clip_eq v n 0
  · cases hi with
    | none => rfl
    | some v => exact clip_eq v n n
theorem places_gen (i j : Nat) : Builtin.Slice.slicePlaces (i : Int) (j : Int) 1 = j - i := by
  unfold Builtin.Slice.slicePlaces
  have h1 : (1 : Int) > 0 := by omega
  simp only [h1, if_true, Int.ediv_one]
  split <;> omega
theorem slicePart_ {v : Value} {o : Option Int} {Q : Option Int → Shared → Prop} (p : IsPart v o) (h : Q o s) : wpAny (model prog w) A (Builtin.Slice.slicePartIndex v) Q E s := by
  cases p with
  | none => exact slicePart_none h
  | int i t => exact slicePart_int h
theorem sliceApplied_gen {sl : Addr} {vl vu : Value} {lo hi : Option Int} {n : Nat} {Q : Int × Int × Nat → Shared → Prop} (hs : s.heap.IsSliceOf sl vl vu .none) (pl : IsPart vl lo) (pu : IsPart vu hi)
    (h : Q (((sIx n 0 lo : Nat) : Int), 1, sIx n n hi - sIx n 0 lo) s) : wpAny (model prog w) A (Builtin.Slice.sliceApplied (.ref sl) (pure (n : Int))) Q E s := by
  obtain ⟨os, hos, hcs, hds⟩ := id hs
  unfold Builtin.Slice.sliceApplied Builtin.Slice.sliceFields
  refine wpAny_bind (wpAny_bind (wpAny_field hos hds (x := vl) rfl (wpAny_bind (wpAny_field hos hds (x := vu) rfl (wpAny_bind (wpAny_field hos hds (x := .none) rfl (wpAny_pure ?_)))))))
  refine wpAny_bind (slicePart_none ?_)
  show wpAny _ _ (if ((1 : Int) == 0) = true then _ else _) _ _ s
  rw [if_neg (by decide)]
  refine wpAny_bind (slicePart_ pl (wpAny_bind (slicePart_ pu (wpAny_bind (wpAny_pure ?_)))))
  show wpAny _ _ (match Builtin.Slice.sliceAdjust lo hi 1 (n : Int) with | (lo, hi) => pure (lo, (1 : Int), Builtin.Slice.slicePlaces lo hi 1)) _ _ s
  rw [adjust_gen lo hi n]
  show wpAny _ _ (pure (((sIx n 0 lo : Nat) : Int), (1 : Int), Builtin.Slice.slicePlaces ((sIx n 0 lo : Nat) : Int) ((sIx n n hi : Nat) : Int) 1)) _ _ s
  rw [places_gen]
  exact wpAny_pure h
theorem pick_gen (xs : Array Value) (i k : Nat) : ((List.range k).filterMap fun (m : Nat) => xs[((i : Int) + (m : Int) * 1).toNat]?).toArray = ((xs.toList.drop i).take k).toArray := by
  have e : (fun (m : Nat) => xs[((i : Int) + (m : Int) * 1).toNat]?) = fun m => xs[i + m]? := by
    funext m
    have : ((i : Int) + (m : Int) * 1).toNat = i + m := by omega
    rw [this]
  rw [e]
  have := pick_run xs i k
  rw [List.filterMap_map] at this
  have e2 : ((fun x => xs[x]?) ∘ fun x => i + x) = fun m => xs[i + m]? := rfl
  rw [e2] at this
  rw [this]

theorem getItem_tuple_cut {t sl : Addr} {items : Array Value} {vl vu : Value} {lo hi : Option Int} {Q : Value → Shared → Prop} (ht : IsTup s.heap t items) (hs : s.heap.IsSliceOf sl vl vu .none) (pl : IsPart vl lo) (pu : IsPart vu hi)
    (hw : ¬ (sIx items.size 0 lo = 0 ∧ sIx items.size items.size hi = items.size))
    (h : Q (.ref s.heap.objs.size) { s with heap := s.heap.push { cls := .type "tuple", data := .seq ((items.toList.drop (sIx items.size 0 lo)).take (sIx items.size items.size hi - sIx items.size 0 lo)).toArray } })
    (hsz : items.size ≤ sizeLine) : wpAny (model prog w) A (getItem (.ref t) (.ref sl)) Q E s := by
  have htake : sizeOk (.seq ((items.toList.drop (sIx items.size 0 lo)).take (sIx items.size items.size hi - sIx items.size 0 lo)).toArray) := by
    show ((items.toList.drop (sIx items.size 0 lo)).take (sIx items.size items.size hi - sIx items.size 0 lo)).toArray.size ≤ sizeLine
    rw [List.size_toArray, List.length_take, List.length_drop, Array.length_toList]
    omega
  have hj : sIx items.size items.size hi ≤ items.size := sIx_le _ _ (Nat.le_refl _) hi
  obtain ⟨os, hos, hcs, hds⟩ := id hs
  have hTs : s.TypeIs (.ref sl) "slice" := ⟨os, hos, hcs⟩
  unfold getItem
  try with_reducible refine wpAny_holding ?_
  first | refine wpAny_bind (wpAny_pure ?_) | skip
  refine wpAny_bind (wpAny_sequenceKey ht.typeIs (by decide) ?_)
  refine wpAny_bind (wpAny_callSpecial?_slot (name := Str.ofString "__getitem__") ht.typeIs PyProof.Rows.slot_tuple_getitem
    (wpAny_call_entry PyProof.Rows.slot_tuple_getitem ht.typeIs entry_tuple_getitem ?_ (args_tuple_getitem _ _)))
  show wpAny _ _ (Builtin.Tuple.tupleItemsOf (.ref t) >>= _) _ _ s
  refine wpAny_bind (tupleItemsOf_ ht ?_)
  refine wpAny_bind (wpAny_typeOf hTs ?_)
  rw [if_pos (by decide)]
  refine wpAny_bind (sliceApplied_gen hs pl pu ?_)
  have hno : ¬ ((((sIx items.size 0 lo : Nat) : Int) == 0 && (1 : Int) == 1 && (sIx items.size items.size hi - sIx items.size 0 lo) == items.size) = true) := by
    intro q
    rw [Bool.and_eq_true, Bool.and_eq_true] at q
    have q1 : ((sIx items.size 0 lo : Nat) : Int) = 0 := eq_of_beq q.1.1
    have q2 : sIx items.size items.size hi - sIx items.size 0 lo = items.size := eq_of_beq q.2
    exact hw ⟨by omega, by omega⟩
  show wpAny _ _ (if (((sIx items.size 0 lo : Nat) : Int) == 0 && (1 : Int) == 1 && (sIx items.size items.size hi - sIx items.size 0 lo) == items.size) = true then _ else _) _ _ s
  rw [if_neg hno, pick_gen]
  first
    | exact wpAny_bind (m := Builtin.Tuple.tupleExact _) (wpAny_newObj_type (wpAny_pure ⟨_, rfl, wpAny_pure h⟩) htake)
    | exact wpAny_bind (m := Builtin.Tuple.tupleExact _) (wpAny_newObj_type (wpAny_bind (wpAny_pure (wpAny_pure ⟨_, rfl, wpAny_pure h⟩))) htake)
    | exact wpAny_bind (wpAny_bind (m := Builtin.Tuple.tupleExact _) (wpAny_newObj_type (wpAny_pure (wpAny_pure ⟨_, rfl, wpAny_pure h⟩)) htake))
    | exact wpAny_bind (wpAny_bind (m := Builtin.Tuple.tupleExact _) (wpAny_newObj_type (wpAny_pure ⟨_, rfl, wpAny_pure h⟩) htake))
end
end HT

namespace L2
open PySem PySem.Spec PyProof.Rows

/-! ### the parts of a slice -/
abbrev TO := St → Hp → (Option Int → Hp → Prop) → Prop
def PO (X : Cx) (e : Option Expr) (t : TO) : Prop :=
  ∀ (pins : List (Addr × Obj)) (s : Shared) (σ : St) (H : Hp) (Q : Option Int → Hp → Prop), Inv X pins σ H s → t σ H Q →
    wpAny (model X.prog X.w) X.A (evalPart e X.env) (fun u s' => ∃ o H', Inv X pins σ H' s' ∧ IsPart u o ∧ Q o H') X.xe s
def tNoPart : TO := fun _ H Q => Q none H
def tPart (t : TE) : TO := fun σ H Q => t σ H fun x H1 => ∃ i, x = .int i ∧ Q (some i) H1

theorem intsAre_of {ns : List Int} : ∀ {us : List Value}, Vals (ns.map V.int) us → IntsAre us ns := by
  induction ns with
  | nil => intro us r; rw [List.map_nil] at r; cases r; exact .nil
  | cons n ns ih =>
    intro us r
    rw [List.map_cons] at r
    cases r with
    | cons r1 r2 =>
      obtain ⟨t, e⟩ := r1
      subst e
      exact .cons n t (ih r2)

section
variable {X : Cx} {e : Expr} {te : TE} {lo hi : Option Expr} {tl th : TO} {pos p2 : Pos}

theorem po_none : PO X none tNoPart := by
  intro pins s σ H Q I h
  rw [evalPart_none]
  exact wpAny_pure ⟨none, H, I, .none, h⟩
theorem po_some (h : PE X e te) : PO X (some e) (tPart te) := by
  intro pins s σ H Q I hw
  rw [evalPart_some]
  refine thn (h pins s σ H _ I hw) fun u s1 ⟨x, H1, I1, r1, q1⟩ => ?_
  obtain ⟨i, rfl, q⟩ := q1
  obtain ⟨t, rfl⟩ := r1
  exact ⟨some i, H1, I1, .int i t, q⟩

def SlR (X : Cx) (r : V → Option Int → Option Int → Hp → VK → Prop) : Prop :=
  ∀ (pins : List (Addr × Obj)) (s : Shared) (σ : St) (H : Hp) (x : V) (v vl vu : Value) (lo hi : Option Int) (sl : Addr) (Q : VK), Inv X pins σ H s → RelV x v → s.heap.IsSliceOf sl vl vu .none → IsPart vl lo → IsPart vu hi → r x lo hi H Q →
    ∃ T id, typeLookup (.type T) "__getitem__" = pure (some (.builtin id)) ∧ s.TypeIs v T ∧ wpAny (model X.prog X.w) X.A (getItem v (.ref sl)) (EP X pins σ Q) X.xe s
def tSl (r : V → Option Int → Option Int → Hp → VK → Prop) (te : TE) (tl th : TO) : TE := fun σ H Q => te σ H fun x H1 => tl σ H1 fun l H2 => th σ H2 fun u H3 => r x l u H3 Q
theorem pe_slice {r : V → Option Int → Option Int → Hp → VK → Prop} (hr : SlR X r) (he : PE X e te) (hl : PO X lo tl) (hu : PO X hi th) : PE X (.Subscript e (.Slice lo hi none p2) pos) (tSl r te tl th) := by
  intro pins s σ H Q I h
  refine Subscript_ (thn (he pins s σ H _ I h) fun v s1 ⟨x, H1, I1, r1, q1⟩ => ?_)
  refine wpAny_Slice (thn (hl pins s1 σ H1 _ I1 q1) fun vl s2 ⟨l, H2, I2, pl, q2⟩ => thn (hu pins s2 σ H2 _ I2 q2) fun vu s3 ⟨u, H3, I3, pu, q3⟩ => ?_)
  rw [evalPart_none]
  refine wpAny_pure ?_
  have I4 : Inv X pins σ H3 { s3 with heap := s3.heap.push { cls := .type "slice", data := .fields #[vl, vu, .none] } } := I3.kept (t' := s3.toks) fun b ob q => Heap.get?_push_of_some _ q
  obtain ⟨T, id, hT, ht, hg⟩ := hr pins { s3 with heap := s3.heap.push { cls := .type "slice", data := .fields #[vl, vu, .none] } } σ H3 x v vl vu l u s3.heap.objs.size Q I4 r1 (Heap.IsSliceOf.new ..) pl pu q3
  show wpAny (model X.prog X.w) X.A (subscriptTail e (.Slice lo hi none p2) v (.ref s3.heap.objs.size)) (EP X pins σ Q) X.xe { s3 with heap := s3.heap.push { cls := .type "slice", data := .fields #[vl, vu, .none] } }
  exact tail_any (ops := [.ref s3.heap.objs.size, v]) ht hT hg (by with_unfolding_all rfl)

def cutV (xs : List V) (lo hi : Option Int) : List V := (xs.drop (HT.sIx xs.length 0 lo)).take (HT.sIx xs.length xs.length hi - HT.sIx xs.length 0 lo)
theorem cutV_length (xs : List V) (lo hi : Option Int) : (cutV xs lo hi).length ≤ xs.length := by
  unfold cutV
  rw [List.length_take, List.length_drop]
  omega
def rSlT (K : PySem.W.Frag) : V → Option Int → Option Int → Hp → VK → Prop := fun x lo hi H Q => ∃ a xs, x = .ref a ∧ SqT K H a xs ∧
  ¬ (HT.sIx xs.length 0 lo = 0 ∧ HT.sIx xs.length xs.length hi = xs.length) ∧ ∀ p, H p = none → Q (.ref p) (upd H p (.tup (cutV xs lo hi)))
theorem sl_tup : SlR X (rSlT X.K) := by
  intro pins s σ H x v vl vu lo hi sl Q I rx hs pl pu h
  obtain ⟨a, xs, rfl, hx, hw, q⟩ := h
  cases rx
  obtain ⟨its, r, ht, hz⟩ := I.tuple hx
  have hlen : its.toArray.size = xs.length := by rw [List.size_toArray]; exact r.length.symm
  refine ⟨"tuple", _, PyProof.Rows.slot_tuple_getitem.lookup, ht.typeIs, ?_⟩
  refine HT.getItem_tuple_cut ht hs pl pu (by rw [hlen]; exact hw) ?_ (by rw [hlen]; exact hz)
  rw [hlen]
  refine ⟨.ref s.heap.objs.size, _, I.laid (t' := s.toks) (o := .tup (cutV xs lo hi)) (fun b ob q => Heap.get?_push_of_some _ q) (Nat.le_refl _) ?_, rfl, q _ (I.hok.fresh (Nat.le_refl _))⟩
  exact ⟨Nat.le_trans (cutV_length xs lo hi) hz, _, (r.drop (HT.sIx xs.length 0 lo)).take (HT.sIx xs.length xs.length hi - HT.sIx xs.length 0 lo), IsTup.new _ _⟩

/-! ### t < u, t + u -/
end
end L2

namespace L2
open PySem PySem.Spec PyProof.Rows

/-! ### places -/
def ixN (n : Nat) (i : Int) : Option Nat := if 0 ≤ i then (if i < n then some i.toNat else none) else if -(n : Int) ≤ i then some (i + n).toNat else none
def atI {α : Type} (xs : List α) (i : Int) : Option α := (ixN xs.length i).bind fun j => xs[j]?
theorem ixN_seq {n : Nat} {i : Int} {j : Nat} (h : ixN n i = some j) : seqIndex? i n = some j ∧ j < n ∧ -(n : Int) ≤ i ∧ i < n := by
  unfold ixN at h
  by_cases h0 : 0 ≤ i
  · rw [if_pos h0] at h
    by_cases h1 : i < n
    · rw [if_pos h1] at h
      have e : i.toNat = j := Option.some.inj h
      exact ⟨by rw [seqIndex_of h0 h1, e], by omega, by omega, h1⟩
    · rw [if_neg h1] at h; cases h
  · rw [if_neg h0] at h
    by_cases h1 : -(n : Int) ≤ i
    · rw [if_pos h1] at h
      have e : (i + n).toNat = j := Option.some.inj h
      exact ⟨by rw [seqIndex_neg (by omega) h1, e], by omega, h1, by omega⟩
    · rw [if_neg h1] at h; cases h
theorem atI_get {α : Type} {xs : List α} {i : Int} {v : α} (h : atI xs i = some v) : ∃ j, seqIndex? i xs.length = some j ∧ xs[j]? = some v ∧ j < xs.length ∧ -(xs.length : Int) ≤ i ∧ i < xs.length := by
  unfold atI at h
  cases e : ixN xs.length i with
  | none => rw [e] at h; cases h
  | some j =>
    rw [e] at h
    obtain ⟨h1, h2, h3, h4⟩ := ixN_seq e
    exact ⟨j, h1, h, h2, h3, h4⟩
theorem atI_nat {α : Type} {xs : List α} {j : Nat} {v : α} (h : xs[j]? = some v) : atI xs (j : Int) = some v := by
  have hj : j < xs.length := (List.getElem?_eq_some_iff.mp h).1
  have e : ixN xs.length (j : Int) = some j := by
    unfold ixN
    rw [if_pos (by omega), if_pos (by omega)]; simp
  unfold atI; rw [e]; exact h
/-! ### what may be subscripted -/
def PlainIx (b : Expr) : Prop := ∀ o i, subscripted b false o i = operate [o, i] (getItem o i)
def IxR (X : Cx) (r : R2) : Prop :=
  ∀ (value slice : Expr) (pins : List (Addr × Obj)) (s : Shared) (σ : St) (H : Hp) (x y : V) (v u : Value) (Q : VK), Inv X pins σ H s → RelV x v → RelV y u → r x y H Q →
    subscripted slice false v u = operate [v, u] (getItem v u) → wpAny (model X.prog X.w) X.A (subscriptTail value slice v u) (EP X pins σ Q) X.xe s
def MtR (X : Cx) (id : String) (r : V → List V → Hp → VK → Prop) : Prop :=
  ∀ (pins : List (Addr × Obj)) (s : Shared) (σ : St) (H : Hp) (x : V) (xs : List V) (v : Value) (us : List Value) (Q : VK), Inv X pins σ H s → RelV x v → Vals xs us → r x xs H Q →
    wpAny (model X.prog X.w) X.A (call (.builtin id) (v :: us)) (EP X pins σ Q) X.xe s
section
variable {X : Cx} {a b : Expr} {ta tb : TE} {pos : Pos}
theorem pe_ix {r : R2} (hr : IxR X r) (ha : PE X a ta) (hb : PE X b tb) (hs : PlainIx b) : PE X (.Subscript a b pos) (tOp r ta tb) := by
  intro pins s σ H Q I h
  exact Subscript_ (binT ha hb I h fun v u s2 x y H2 I2 rx ry q => hr a b pins s2 σ H2 x y v u Q I2 rx ry q (hs _ _))

def rIxL (K : PySem.W.Frag) : R2 := fun x y H Q => ∃ p xs i v, x = .ref p ∧ y = .int i ∧ SqL K H p xs ∧ atI xs i = some v ∧ Q v H
def rIxT (K : PySem.W.Frag) : R2 := fun x y H Q => ∃ p xs i v, x = .ref p ∧ y = .int i ∧ SqT K H p xs ∧ atI xs i = some v ∧ Q v H
theorem ix_list : IxR X (rIxL X.K) := by
  intro value slice pins s σ H x y v u Q I rx ry h hs
  obtain ⟨p, xs, i, z, rfl, rfl, hq, he, q⟩ := h
  cases rx
  obtain ⟨t, rfl⟩ := ry
  obtain ⟨its, r, pl, hz⟩ := I.list hq
  obtain ⟨j, h1, h2, h3, h4, h5⟩ := atI_get he
  obtain ⟨w, ew, rw'⟩ := r.get h2
  have hl := r.length
  have hn := line63
  have fin : EP X pins σ Q w s := ⟨z, H, I, rw', q⟩
  by_cases h0 : 0 ≤ i
  · have hj : i.toNat = j := by
      rw [seqIndex_of h0 h5] at h1
      exact Option.some.inj h1
    exact item_listR pl.isList h0 (by omega) (by rw [hj]; simpa using ew) fin hs
  · have hj : (i + (its.toArray.size : Int)).toNat = j := by
      rw [seqIndex_neg (by omega) h4] at h1
      rw [List.size_toArray, ← hl]
      exact Option.some.inj h1
    exact subscriptTail_builtinR (x := w) pl.isList.typeIs slot_list_getitem.lookup
      (wpAny_getItem_list_neg (Q := fun r s' => r = w ∧ EP X pins σ Q r s') pl.isList (by omega) (by rw [List.size_toArray] <;> omega) (by omega) (by rw [hj]; simpa using ew) ⟨rfl, fin⟩) hs
theorem ix_tup : IxR X (rIxT X.K) := by
  intro value slice pins s σ H x y v u Q I rx ry h hs
  obtain ⟨p, xs, i, z, rfl, rfl, hq, he, q⟩ := h
  cases rx
  obtain ⟨t, rfl⟩ := ry
  obtain ⟨its, r, pl, hz⟩ := I.tuple hq
  obtain ⟨j, h1, h2, h3, h4, h5⟩ := atI_get he
  obtain ⟨w, ew, rw'⟩ := r.get h2
  have hl := r.length
  have hn := line63
  have fin : EP X pins σ Q w s := ⟨z, H, I, rw', q⟩
  exact subscriptTail_builtinR (x := w) pl.typeIs slot_tuple_getitem.lookup
    (getItem_tuple (j := j) (Q := fun r s' => r = w ∧ EP X pins σ Q r s') pl (by omega) (by omega) (by rw [List.size_toArray, ← hl]; exact h1) (by simpa using ew) ⟨rfl, fin⟩) hs
/-! ### xs[i] = v, any sign -/
theorem mapSeq_set (its : List Value) (n j : Nat) (u : Value) : Obj.mapSeq (·.setIfInBounds j u) { cls := .type "list", data := .seq its.toArray n } = { cls := .type "list", data := .seq (its.set j u).toArray n } := by
  simp [Obj.mapSeq]
theorem Inv.lst {pins : List (Addr × Obj)} {σ : St} {H : Hp} {s : Shared} {p : Addr} {xs : List V} (I : Inv X pins σ H s) (h : H p = some (.lst xs)) :
    ∃ (its : List Value) (n : Nat), Vals xs its ∧ s.heap.get? p = some { cls := .type "list", data := .seq its.toArray n } ∧ xs.length ≤ sizeLine := by
  obtain ⟨z, its, n, r, e⟩ := I.hok p _ h
  exact ⟨its, n, r, e, z⟩
theorem Inv.lstUpd {pins : List (Addr × Obj)} {σ : St} {H : Hp} {s : Shared} {p : Addr} {xs ys : List V} {its its' : List Value} {n n' : Nat} {f : Obj → Obj} (I : Inv X pins σ H s) (h : H p = some (.lst xs))
    (ho : s.heap.get? p = some { cls := .type "list", data := .seq its.toArray n }) (hf : f { cls := .type "list", data := .seq its.toArray n } = { cls := .type "list", data := .seq its'.toArray n' }) (r : Vals ys its') (hz : ys.length ≤ sizeLine) (t : Nat) :
    Inv X pins σ (upd H p (.lst ys)) { s with heap := s.heap.update p f, toks := t } := by
  have e : (s.heap.update p f).get? p = some { cls := .type "list", data := .seq its'.toArray n' } := by
    rw [Heap.get?_update_self f ho (by rw [hf] <;> rfl), hf]
  refine I.write (x := p) (e := p) (by rw [h]; trivial) (.inl rfl) (fun b u hb q => (Heap.get?_update_other _ _ (Ne.symm hb)).trans q) ⟨_, e⟩ ?_
  exact ⟨hz, its', n', r, e⟩
def rSetL : V → V → V → Hp → (Hp → Prop) → Prop := fun o i v H Q => ∃ p xs k j, o = .ref p ∧ i = .int k ∧ H p = some (.lst xs) ∧ ixN xs.length k = some j ∧ Q (upd H p (.lst (xs.set j v)))
theorem set_list : PSet X rSetL := by
  intro pins s σ H o i v ov iv u Q I ro ri rv h
  obtain ⟨p, xs, k, j, rfl, rfl, hp, hj, q⟩ := h
  cases ro
  obtain ⟨t, rfl⟩ := ri
  obtain ⟨its, n, r, ho, hz⟩ := I.lst hp
  obtain ⟨h1, h2, h3, h4⟩ := ixN_seq hj
  have hl := r.length
  have hn := line63
  have I' : Inv X pins σ (upd H p (.lst (xs.set j v))) { s with heap := s.heap.update p (Obj.mapSeq (·.setIfInBounds j u)) } :=
    I.lstUpd hp ho (mapSeq_set its n j u) (r.set rv j) (by rw [List.length_set]; exact hz) s.toks
  by_cases h0 : 0 ≤ k
  · have hk : k.toNat = j := by
      rw [seqIndex_of h0 h4] at h1
      exact Option.some.inj h1
    exact PySem.W.ki_setAt ho h0 (by omega) (by rw [List.size_toArray, ← hl]; exact h4) (by rw [hk]; exact ⟨_, I', q⟩)
  · have hk : (k + (its.toArray.size : Int)).toNat = j := by
      rw [seqIndex_neg (by omega) h3] at h1
      rw [List.size_toArray, ← hl]
      exact Option.some.inj h1
    exact PySem.W.ki_setBack ho (by omega) (by rw [List.size_toArray, ← hl]; exact h3) (by omega) (by rw [hk]; exact ⟨_, I', q⟩)

/-! ### slices -/
theorem slice_bounds (lo hi : Option Int) (n : Nat) : (sliceBounds lo hi none n).1 = ((HT.sIx n 0 lo : Nat) : Int) ∧ (sliceBounds lo hi none n).2.1 = ((HT.sIx n n hi : Nat) : Int) ∧ (sliceBounds lo hi none n).2.2 = 1 := by
  refine ⟨?_, ?_, rfl⟩
  · cases lo with
    | none => simp [sliceBounds, HT.sIx]
    | some i =>
      simp only [sliceBounds, HT.sIx, Option.getD_none, show (1 : Int) > 0 by decide, if_true]
      by_cases h : i < 0
      · simp only [h, if_true] <;> omega
      · simp only [h, if_false] <;> omega
  · cases hi with
    | none => simp [sliceBounds, HT.sIx]
    | some i =>
      simp only [sliceBounds, HT.sIx, Option.getD_none, show (1 : Int) > 0 by decide, if_true]
      by_cases h : i < 0
      · simp only [h, if_true] <;> omega
      · simp only [h, if_false] <;> omega
theorem slicePick_cut (its : List Value) (lo hi : Option Int) : slicePick its.toArray lo hi none = ((its.drop (HT.sIx its.length 0 lo)).take (HT.sIx its.length its.length hi - HT.sIx its.length 0 lo)).toArray := by
  obtain ⟨h1, h2, h3⟩ := slice_bounds lo hi its.toArray.size
  unfold slicePick
  rw [h1, h2, h3]
  simp only [sliceRange_one, pick_run, List.size_toArray] <;> rfl
def rSlL (K : PySem.W.Frag) : V → Option Int → Option Int → Hp → VK → Prop := fun x lo hi H Q => ∃ a xs, x = .ref a ∧ SqL K H a xs ∧ ∀ p, H p = none → Q (.ref p) (upd H p (.lst (cutV xs lo hi)))
theorem sl_list : SlR X (rSlL X.K) := by
  intro pins s σ H x v vl vu lo hi sl Q I rx hs pl pu h
  obtain ⟨a, xs, rfl, hx, q⟩ := h
  cases rx
  obtain ⟨its, r, ht, hz⟩ := I.list hx
  have hlen := r.length
  refine ⟨"list", _, slot_list_getitem.lookup, ht.isList.typeIs, ?_⟩
  refine wpAny_getItem_list_slice ht.isList hs pl pu .none (by simp) ?_ (by rw [List.size_toArray] <;> omega)
  rw [slicePick_cut, ← hlen]
  refine ⟨.ref s.heap.objs.size, _, I.laid (t' := s.toks) (o := .lst (cutV xs lo hi)) (fun b ob q => Heap.get?_push_of_some _ q) (Nat.le_refl _) ?_, rfl, q _ (I.hok.fresh (Nat.le_refl _))⟩
  exact ⟨Nat.le_trans (cutV_length xs lo hi) hz, _, 0, (r.drop (HT.sIx xs.length 0 lo)).take (HT.sIx xs.length xs.length hi - HT.sIx xs.length 0 lo), Heap.get?_push_size _ rfl⟩

/-! ### in, not in: flat items -/
def flatV : V → Bool
  | .non => true
  | .bl _ => true
  | .int _ => true
  | .str _ => true
  | _ => false
def eqV : V → V → Bool
  | .non, .non => true
  | .bl a, .bl b => a == b
  | .bl a, .int b => (if a then 1 else 0) == b
  | .int a, .bl b => a == (if b then 1 else 0)
  | .int a, .int b => a == b
  | .str a, .str b => a == b
  | _, _ => false
theorem eqAt_V {A : Around} {s : Shared} {y x : V} {u v : Value} (ry : RelV y u) (rx : RelV x v) (fy : flatV y = true) (fx : flatV x = true) : SeqAt.EqAt A s u v (eqV y x) := by
  cases y with
  | non =>
    cases ry
    cases x with
    | non => cases rx; exact SeqAt.EqAt.same _
    | bl b => cases rx; exact SeqAt.EqAt.none_bool b
    | int b => obtain ⟨t, rfl⟩ := rx; exact SeqAt.EqAt.none_int b t
    | str b => obtain ⟨t, rfl⟩ := rx; exact SeqAt.EqAt.none_str b t
    | _ => exact absurd (show false = true from fx) Bool.false_ne_true
  | bl a =>
    cases ry
    cases x with
    | non => cases rx; exact SeqAt.EqAt.bool_none a
    | bl b => cases rx; exact SeqAt.EqAt.bool_bool a b
    | int b => obtain ⟨t, rfl⟩ := rx; exact SeqAt.EqAt.bool_int a b t
    | str b => obtain ⟨t, rfl⟩ := rx; exact SeqAt.EqAt.bool_str a b t
    | _ => exact absurd (show false = true from fx) Bool.false_ne_true
  | int a =>
    obtain ⟨t', rfl⟩ := ry
    cases x with
    | non => cases rx; exact SeqAt.EqAt.int_none a t'
    | bl b => cases rx; exact SeqAt.EqAt.int_bool a t' b
    | int b => obtain ⟨t, rfl⟩ := rx; exact SeqAt.EqAt.int_int a t' b t
    | str b => obtain ⟨t, rfl⟩ := rx; exact SeqAt.EqAt.int_str a t' b t
    | _ => exact absurd (show false = true from fx) Bool.false_ne_true
  | str a =>
    obtain ⟨t', rfl⟩ := ry
    cases x with
    | non => cases rx; exact SeqAt.EqAt.str_none a t'
    | bl b => cases rx; exact SeqAt.EqAt.str_bool a t' b
    | int b => obtain ⟨t, rfl⟩ := rx; exact SeqAt.EqAt.str_int a t' b t
    | str b => obtain ⟨t, rfl⟩ := rx; exact SeqAt.EqAt.str_str a t' b t
    | _ => exact absurd (show false = true from fx) Bool.false_ne_true
  | _ => exact absurd (show false = true from fy) Bool.false_ne_true
def eqU (x : V) (u : Value) : Bool := match u with
  | .none => eqV .non x
  | .bool b => eqV (.bl b) x
  | .int i _ => eqV (.int i) x
  | .str z _ => eqV (.str z) x
  | _ => false
theorem eqU_of {x y : V} {u : Value} (r : RelV y u) (f : flatV y = true) : eqU x u = eqV y x := by
  cases y with
  | non => cases r; rfl
  | bl b => cases r; rfl
  | int i => obtain ⟨t, rfl⟩ := r; rfl
  | str z => obtain ⟨t, rfl⟩ := r; rfl
  | _ => exact absurd (show false = true from f) Bool.false_ne_true
theorem any_eqU {x : V} : ∀ {xs : List V} {us : List Value}, Vals xs us → xs.all flatV = true → us.any (eqU x) = xs.any fun y => eqV y x
  | _, _, .nil, _ => rfl
  | y :: xs, u :: us, .cons r t, f => by
    rw [List.all_cons, Bool.and_eq_true] at f
    rw [List.any_cons, List.any_cons, eqU_of r f.1, any_eqU t f.2]
theorem mem_eqAt {A : Around} {s : Shared} {x : V} {v : Value} (rx : RelV x v) (fx : flatV x = true) : ∀ {xs : List V} {us : List Value}, Vals xs us → xs.all flatV = true → ∀ u ∈ us, SeqAt.EqAt A s u v (eqU x u)
  | _, _, .nil, _ => fun u hu => by cases hu
  | y :: xs, u :: us, .cons r t, f => fun u' hu => by
    rw [List.all_cons, Bool.and_eq_true] at f
    rcases List.mem_cons.mp hu with rfl | hu
    · rw [eqU_of r f.1]; exact eqAt_V r rx f.1 fx
    · exact mem_eqAt rx fx t f.2 u' hu
def inV (x : V) (xs : List V) : Bool := xs.any fun y => eqV y x
def rIn (K : PySem.W.Frag) (neg : Bool) : R2 := fun x y H Q => ∃ p xs, y = .ref p ∧ (SqL K H p xs ∨ SqT K H p xs) ∧ flatV x = true ∧ xs.all flatV = true ∧ Q (.bl (if neg then !inV x xs else inV x xs)) H
theorem op_notIn_seq : OpR X (compareOp .NotIn) (rIn X.K true) := by
  intro pins s σ H x y v u Q I rx ry h
  obtain ⟨p, xs, rfl, hq, fx, fs, q⟩ := h
  cases ry
  rcases hq with hq | hq
  · obtain ⟨its, r, pl, hz⟩ := I.list hq
    refine SeqAt.notIn_listAt (eqU x) pl.isList (fun w hw => mem_eqAt rx fx r fs w (by simpa using hw)) ⟨.bl _, H, I, rfl, ?_⟩
    rw [show its.toArray.any (eqU x) = its.any (eqU x) by simp, any_eqU r fs]
    exact q
  · obtain ⟨its, r, pl, hz⟩ := I.tuple hq
    refine SeqAt.notIn_tupleAt (eqU x) pl (fun w hw => mem_eqAt rx fx r fs w (by simpa using hw)) ⟨.bl _, H, I, rfl, ?_⟩
    rw [show its.toArray.any (eqU x) = its.any (eqU x) by simp, any_eqU r fs]
    exact q
/-! ### len, list(x), tuple(x) of any list or tuple that is read -/
theorem call_len_seq : CallR X (.builtin "len") (fun xs H Q => ∃ p ys, xs = [.ref p] ∧ (SqL X.K H p ys ∨ SqT X.K H p ys) ∧ Q (.int ys.length) H) := by
  intro pins s σ H xs us Q I r h
  obtain ⟨p, ys, rfl, hq, q⟩ := h
  obtain ⟨u, rfl, rx⟩ := vals1 r
  cases rx
  have hn := line63
  rcases hq with hq | hq
  · obtain ⟨its, r', pl, hz⟩ := I.list hq
    have hlen := r'.length
    exact Calls.call_len_list pl.isList (by simp only [List.size_toArray] <;> omega) ⟨.int ys.length, H, I.tok _, ⟨s.toks + 1, by rw [List.size_toArray, hlen]⟩, q⟩
  · obtain ⟨its, r', pl, hz⟩ := I.tuple hq
    have hlen := r'.length
    exact len_tuple pl (by simp only [List.size_toArray] <;> omega) ⟨.int ys.length, H, I.tok _, ⟨s.toks + 1, by rw [List.size_toArray, hlen]⟩, q⟩
theorem call_list_of : CallR X (.type "list") (fun xs H Q => ∃ p ys, xs = [.ref p] ∧ (SqL X.K H p ys ∨ SqT X.K H p ys) ∧ ∀ l, H l = none → Q (.ref l) (upd H l (.lst ys))) := by
  intro pins s σ H xs us Q I r h
  obtain ⟨p, ys, rfl, hq, q⟩ := h
  obtain ⟨u, rfl, rx⟩ := vals1 r
  cases rx
  have fin : ∀ (its : List Value), Vals ys its → ys.length ≤ sizeLine → ∀ (h' : Heap) (c' : Nat), (∀ b o', s.heap.get? b = some o' → h'.get? b = some o') →
      h'.get? s.heap.objs.size = some { cls := .type "list", dict := none, data := .seq its.toArray c', slots := #[] } → EP X pins σ Q (.ref s.heap.objs.size) { s with heap := h' } := fun its r' hz h' c' kp e =>
    ⟨.ref s.heap.objs.size, _, I.laid (t' := s.toks) kp (Nat.le_refl _) (show ObjOk X.prog X.w _ h' _ (.lst ys) from ⟨hz, its, c', r', e⟩), rfl, q _ (I.hok.fresh (Nat.le_refl _))⟩
  rcases hq with hq | hq
  · obtain ⟨its, r', pl, hz⟩ := I.list hq
    have hlen := r'.length
    obtain ⟨o, ho, hc, n, hd⟩ := pl.isList
    exact call_list_seq p (.inl rfl) ho hc hd (fun h' c' kp e => fin its r' hz h' c' kp e) (by simp only [List.size_toArray] <;> omega)
  · obtain ⟨its, r', pl, hz⟩ := I.tuple hq
    have hlen := r'.length
    obtain ⟨o, ho, hc, n, hd⟩ := pl
    exact call_list_seq p (.inr rfl) ho hc hd (fun h' c' kp e => fin its r' hz h' c' kp e) (by simp only [List.size_toArray] <;> omega)
theorem call_tuple_of : CallR X (.type "tuple") (fun xs H Q => ∃ p ys, xs = [.ref p] ∧ ((SqL X.K H p ys ∧ ∀ l, H l = none → Q (.ref l) (upd H l (.tup ys))) ∨ (SqT X.K H p ys ∧ Q (.ref p) H))) := by
  intro pins s σ H xs us Q I r h
  obtain ⟨p, ys, rfl, h⟩ := h
  obtain ⟨u, rfl, rx⟩ := vals1 r
  cases rx
  rcases h with ⟨hq, q⟩ | ⟨hq, q⟩
  · obtain ⟨its, r', pl, hz⟩ := I.list hq
    have hlen := r'.length
    refine call_tuple_list pl.isList (fun h' kp => ?_) (by simp only [List.size_toArray] <;> omega)
    have I1 : Inv X pins σ H { s with heap := h' } := I.kept (t' := s.toks) kp
    have I2 : Inv X pins σ (upd H h'.objs.size (.tup ys)) { s with heap := h'.push { cls := .type "tuple", data := .seq its.toArray } } :=
      I1.laid (t' := s.toks) (fun b o e => Heap.get?_push_of_some _ e) (Nat.le_refl _) (show ObjOk X.prog X.w _ _ _ (.tup ys) from ⟨hz, its, r', IsTup.new _ _⟩)
    exact ⟨.ref h'.objs.size, _, I2, rfl, q _ (I1.hok.fresh (Nat.le_refl _))⟩
  · obtain ⟨its, r', pl, hz⟩ := I.tuple hq
    exact call_tuple_same pl ⟨.ref p, H, I, rfl, q⟩

/-! ### the call of a builtin's method: o.m(..) -/
def tyV (K : PySem.W.Frag) (T : String) (x : V) (H : Hp) : Prop := match x with
  | .str _ => T = "str"
  | .int _ => T = "int"
  | .ref p => (T = "list" ∧ ∃ xs, SqL K H p xs) ∨ (T = "tuple" ∧ ∃ o, K.lookup p = some o ∧ o.cls = .type "tuple" ∧ o.dict = none) ∨
      (T = "dict" ∧ ((∃ kvs, H p = some (.dK kvs)) ∨ ∃ kvs, H p = some (.dT kvs))) ∨ (T = "set" ∧ ∃ S n, H p = some (.set S n))
  | _ => False
theorem tyV_is {pins : List (Addr × Obj)} {σ : St} {H : Hp} {s : Shared} {T : String} {x : V} {v : Value} (I : Inv X pins σ H s) (r : RelV x v) (ty : tyV X.K T x H) :
    s.TypeIs v T ∧ ∀ a, v = .ref a → ∃ ob, s.heap.get? a = some ob ∧ ob.dict = none := by
  cases x with
  | str z =>
    obtain ⟨t, rfl⟩ := r
    cases (show T = "str" from ty)
    exact ⟨typeIs_str s z t, fun _ e => nomatch e⟩
  | int i =>
    obtain ⟨t, rfl⟩ := r
    cases (show T = "int" from ty)
    exact ⟨typeIs_int s i t, fun _ e => nomatch e⟩
  | ref p =>
    cases r
    rcases ty with ⟨rfl, xs, hq⟩ | ⟨rfl, o, hk, hc, hd⟩ | ⟨rfl, hk⟩ | ⟨rfl, S, n, hk⟩
    · obtain ⟨its, _, pl, _⟩ := I.list hq
      refine ⟨pl.isList.typeIs, fun a e => ?_⟩
      cases e
      obtain ⟨o, n, e, c, hd, _⟩ := pl
      exact ⟨o, e, hd⟩
    · refine ⟨⟨o, I.kIn p o hk, hc⟩, fun a e => ?_⟩
      cases e
      exact ⟨o, I.kIn _ o hk, hd⟩
    · have z : ∃ o, s.heap.get? p = some o ∧ o.ExactDict := by
        rcases hk with ⟨kvs, hk⟩ | ⟨kvs, hk⟩
        · obtain ⟨_, _, _, _, o, _, _, e, ex, _⟩ := I.hok p _ hk
          exact ⟨o, e, ex⟩
        · obtain ⟨_, _, _, _, o, _, _, e, ex, _⟩ := I.hok p _ hk
          exact ⟨o, e, ex⟩
      obtain ⟨o, e, ex⟩ := z
      refine ⟨⟨o, e, ex.1⟩, fun a e2 => ?_⟩
      cases e2
      exact ⟨o, e, ex.2.1⟩
    · obtain ⟨o, _, _, _, e, ex, _⟩ := I.hok p _ hk
      refine ⟨⟨o, e, ex.1⟩, fun a e2 => ?_⟩
      cases e2
      exact ⟨o, e, ex.2.1⟩
  | _ => exact False.elim ty
def tBM0 (K : PySem.W.Frag) (T : String) (r : V → List V → Hp → VK → Prop) (to : TE) : TE := fun σ H Q => to σ H fun x H1 => tyV K T x H1 ∧ r x [] H1 Q
def tBM (K : PySem.W.Frag) (T : String) (r : V → List V → Hp → VK → Prop) (to : TE) (t : TA) : TE := fun σ H Q => to σ H fun x H1 => tyV K T x H1 ∧ t σ H1 fun xs H2 => r x xs H2 Q
variable {o e : Expr} {es : List Expr} {to : TE} {t : TA} {name : Str} {apos cpos : Pos} {T id : String} {r : V → List V → Hp → VK → Prop}
theorem pe_bm0 (pa : PlainAttrs T) (slot : Slot T name id) (hty : typeOf (.builtin id) = pure (.type "method_descriptor")) (hm : MtR X id r) (ho : PE X o to)
    (hbase : attributeBase o name X.env (eval o X.env) = eval o X.env := by rfl) (hline : (apos.endLine == cpos.line) = true := by rfl) : PE X (.Call (.Attribute o name apos) [] [] cpos) (tBM0 X.K T r to) := by
  intro pins s σ H Q I h
  refine wpAny_Call_method0_late hbase hline (thn (ho pins s σ H _ I h) fun v s1 ⟨x, H1, I1, r1, ty, q1⟩ => ?_)
  obtain ⟨h1, h2⟩ := tyV_is I1 r1 ty
  exact ⟨T, id, pa, slot, hty, h1, h2, Calls.callWith_builtin rfl (PySem.evalArgs_none (hm pins s1 σ H1 x [] v [] Q I1 r1 .nil q1))⟩
theorem pe_bm (pa : PlainAttrs T) (slot : Slot T name id) (hty : typeOf (.builtin id) = pure (.type "method_descriptor")) (hm : MtR X id r) (ho : PE X o to) (ha : PA X (e :: es) t)
    (hbase : attributeBase o name X.env (eval o X.env) = eval o X.env := by rfl)
    (hfew : ((backTo cpos (starEach (e :: es) X.env)).all (fun x => !x.1) && (backToKw cpos (keywordEach [] X.env)).all (fun x => x.1.isSome)
      && decide ((e :: es).length + ([] : List Keyword).length + (if ([] : List Keyword).isEmpty then 0 else 1) < 30)) = true := by rfl)
    (hline : (apos.endLine == cpos.line) = true := by rfl) (hs : starEach (e :: es) X.env = (false, eval e X.env) :: starEach es X.env := by rfl) (hplain : (backTo cpos (starEach es X.env)).any (·.1) = false := by rfl) :
    PE X (.Call (.Attribute o name apos) (e :: es) [] cpos) (tBM X.K T r to t) := by
  intro pins s σ H Q I h
  refine wpAny_Call_method_late hbase hfew hline rfl (thn (ho pins s σ H _ I h) fun v s1 ⟨x, H1, I1, r1, ty, q1⟩ => ?_)
  obtain ⟨h1, h2⟩ := tyV_is I1 r1 ty
  refine ⟨T, id, pa, slot, hty, h1, h2, ?_⟩
  have hA := ha cpos pins s1 σ H1 _ I1 q1
  rw [hs] at hA ⊢
  refine Calls.callWith_builtin (by show (false || (backTo cpos (starEach es X.env)).any (·.1)) = false; rw [hplain] <;> rfl) (Calls.evalArgs_plain ?_)
  exact thn hA fun us s2 ⟨vs, H2, I2, r2, q2⟩ => hm pins s2 σ H2 x vs v us Q I2 r1 r2 q2
/- xs.append(e), list.index on a module's tuple .. are MtR facts of 06m -/
end
end L2

namespace L2
open PySem PySem.Spec PyProof.Rows

def MtM (X : Cx) (id : String) (r : V → List V → Hp → VK → Prop) : Prop :=
  ∀ (pins : List (Addr × Obj)) (s : Shared) (σ : St) (H : Hp) (x : V) (xs : List V) (v : Value) (us : List Value) (Q : VK), Inv X pins σ H s → RelV x v → Vals xs us → r x xs H Q →
    wpAny (model X.prog X.w) X.A (call (.builtin id) (v :: us)) (EP X pins σ Q) X.xe s

/-! ### lists of values -/
theorem Vals.one {x : V} {us : List Value} (h : Vals [x] us) : ∃ u, us = [u] ∧ RelV x u := by
  cases h with
  | cons r t => cases t; exact ⟨_, rfl, r⟩
theorem Vals.two {x y : V} {us : List Value} (h : Vals [x, y] us) : ∃ u v, us = [u, v] ∧ RelV x u ∧ RelV y v := by
  cases h with
  | cons r t => cases t with
    | cons q t => cases t; exact ⟨_, _, rfl, r, q⟩
theorem Vals.rep {xs : List V} {us : List Value} (h : Vals xs us) : ∀ k : Nat, Vals (List.replicate k xs).flatten (List.replicate k us).flatten
  | 0 => .nil
  | k + 1 => by
    rw [List.replicate_succ, List.replicate_succ, List.flatten_cons, List.flatten_cons]
    exact Vals.append h (Vals.rep h k)
theorem foldl_rep (its : List Value) : ∀ (k : Nat) (acc : List Value),
    List.foldl (fun x1 x2 => x1 ++ x2) acc.toArray (List.replicate k its.toArray) = (acc ++ (List.replicate k its).flatten).toArray
  | 0, acc => by simp
  | k + 1, acc => by
    have e : acc.toArray ++ its.toArray = (acc ++ its).toArray := by simp
    have e2 : (acc ++ its) ++ (List.replicate k its).flatten = acc ++ (List.replicate (k + 1) its).flatten := by
      rw [List.replicate_succ, List.flatten_cons, List.append_assoc]
    rw [← e2, ← foldl_rep its k (acc ++ its), ← e, List.replicate_succ, List.foldl_cons]

section
variable {X : Cx} {pins : List (Addr × Obj)} {σ : St} {H : Hp} {s : Shared} {l b : Addr} {xs ys zs : List V}

/-! ### the two steps: a tracked list is rewritten, a new list is laid -/
theorem Inv.lset {its its' : List Value} {n : Nat} {f : Array Value → Array Value} {t' : Nat} (I : Inv X pins σ H s) (hH : H l = some (.lst xs))
    (e : s.heap.get? l = some { cls := .type "list", data := .seq its.toArray n }) (hf : f its.toArray = its'.toArray) (hv : Vals ys its') (hz : ys.length ≤ sizeLine) :
    Inv X pins σ (upd H l (.lst ys)) { s with heap := s.heap.update l (Obj.mapSeq f), toks := t' } := by
  have q := PySem.IsL.update e f
  rw [hf] at q
  refine I.write (x := l) (e := l) (by rw [hH]; exact trivial) (.inl rfl) (fun b' u hb hu => (Heap.get?_update_other s.heap (Obj.mapSeq f) (Ne.symm hb)).trans hu) ⟨_, q⟩ ?_
  exact ⟨hz, its', _, hv, q⟩
theorem Inv.lnew {its : List Value} {t' : Nat} (I : Inv X pins σ H s) (hv : Vals ys its) (hz : ys.length ≤ sizeLine) :
    Inv X pins σ (upd H s.heap.objs.size (.lst ys)) { s with heap := s.heap.push { cls := .type "list", data := .seq its.toArray }, toks := t' } :=
  I.laid (fun _ _ q => Heap.get?_push_of_some _ q) (Nat.le_refl _) ⟨hz, its, 0, hv, Heap.get?_push_size _ rfl⟩
theorem Inv.fresh (I : Inv X pins σ H s) : H s.heap.objs.size = none := I.hok.fresh (Nat.le_refl _)
theorem Inv.lstM (I : Inv X pins σ H s) (hH : H l = some (.lst xs)) : xs.length ≤ sizeLine ∧ ∃ (its : List Value) (n : Nat), Vals xs its ∧ xs.length = its.length ∧ s.heap.get? l = some { cls := .type "list", data := .seq its.toArray n } := by
  obtain ⟨z, its, n, r, e⟩ := I.hok l _ hH
  exact ⟨z, its, n, r, r.length, e⟩

theorem notLongL {n : Nat} (h : n ≤ sizeLine) : Builtin.List.listTooLong n = false := by
  unfold Builtin.List.listTooLong
  exact decide_eq_false (by omega)
end

section
variable {X : Cx}

/-! ### methods -/
def rAppend : V → List V → Hp → VK → Prop := fun x vs H Q => ∃ l xs y, x = .ref l ∧ vs = [y] ∧ H l = some (.lst xs) ∧ xs.length < sizeLine ∧ Q .non (upd H l (.lst (xs ++ [y])))
theorem mt_append : MtM X "list.append" rAppend := by
  intro pins s σ H x vs v us Q I rx rv h
  obtain ⟨l, xs, y, rfl, rfl, hH, hz, q⟩ := h
  cases rx
  obtain ⟨u, rfl, ru⟩ := rv.one
  obtain ⟨z, its, n, r, hl, e⟩ := I.lstM hH
  refine call_meets F.slot_list_append ⟨_, e, rfl⟩ F.entry_list_append (F.args_list_append_2 _ _) (PySem.list_append l its.toArray n u (by rw [List.size_toArray]; omega)) ⟨e, ?_⟩
  refine ⟨.non, _, I.lset (its' := its ++ [u]) hH e (by simp) (r.append (.cons ru .nil)) ?_, rfl, q⟩
  rw [List.length_append, List.length_singleton]
  omega

def rExtend : V → List V → Hp → VK → Prop := fun x vs H Q => ∃ l b xs zs, x = .ref l ∧ vs = [.ref b] ∧ H l = some (.lst xs) ∧ H b = some (.lst zs) ∧ xs.length + zs.length ≤ sizeLine ∧ Q .non (upd H l (.lst (xs ++ zs)))
theorem mt_extend : MtM X "list.extend" rExtend := by
  intro pins s σ H x vs v us Q I rx rv h
  obtain ⟨l, b, xs, zs, rfl, rfl, hH, hB, hz, q⟩ := h
  cases rx
  obtain ⟨u, rfl, ru⟩ := rv.one
  cases ru
  obtain ⟨z, its, n, r, hl, e⟩ := I.lstM hH
  obtain ⟨z2, its2, n2, r2, hl2, e2⟩ := I.lstM hB
  have hsz : its.toArray.size + its2.toArray.size ≤ sizeLine := by rw [List.size_toArray, List.size_toArray]; omega
  have hlong : ¬ (!its.toArray.isEmpty && Builtin.List.listTooLong (its.toArray.size + its2.toArray.size)) = true := by
    rw [notLongL hsz, Bool.and_false]
    exact Bool.false_ne_true
  refine call_meets F.slot_list_extend ⟨_, e, rfl⟩ F.entry_list_extend (F.args_list_extend_2 _ _)
    (AutoSeq1.list_extend_list_list_0 l its.toArray n b its2.toArray n2 hlong (by rw [List.size_toArray]; omega) (by omega)) ⟨e, e2, ?_⟩
  refine ⟨.non, _, I.lset (its' := its ++ its2) hH e (by simp) (r.append r2) ?_, rfl, q⟩
  rw [List.length_append]
  omega

/-! ### list + list, list += list, list * int -/
def rCat : R2 := fun x y H Q => ∃ l b xs zs, x = .ref l ∧ y = .ref b ∧ H l = some (.lst xs) ∧ H b = some (.lst zs) ∧ xs.length + zs.length ≤ sizeLine ∧ ∀ p, H p = none → Q (.ref p) (upd H p (.lst (xs ++ zs)))
theorem op_cat : OpR X (binaryOp .Add) rCat := by
  intro pins s σ H x y v u Q I rx ry h
  obtain ⟨l, b, xs, zs, rfl, rfl, hH, hB, hz, q⟩ := h
  cases rx
  cases ry
  obtain ⟨z, its, n, r, hl, e⟩ := I.lstM hH
  obtain ⟨z2, its2, n2, r2, hl2, e2⟩ := I.lstM hB
  refine PySem.P.add_list e e2 ?_ (by rw [List.size_toArray, List.size_toArray]; omega)
  have ea : its.toArray ++ its2.toArray = (its ++ its2).toArray := by simp
  rw [ea]
  exact ⟨.ref _, _, I.lnew (t' := s.toks) (r.append r2) (by rw [List.length_append]; omega), rfl, q _ I.fresh⟩
def rRep : R2 := fun x y H Q => ∃ l k xs, x = .ref l ∧ y = .int k ∧ H l = some (.lst xs) ∧ -(2 ^ 63) ≤ k ∧ k < 2 ^ 63 ∧ xs.length * k.toNat ≤ sizeLine ∧
  ∀ p, H p = none → Q (.ref p) (upd H p (.lst (List.replicate k.toNat xs).flatten))
theorem len_rep {α : Type} (xs : List α) (k : Nat) : (List.replicate k xs).flatten.length = k * xs.length := by
  induction k with
  | zero => simp
  | succ k ih => rw [List.replicate_succ, List.flatten_cons, List.length_append, ih, Nat.succ_mul, Nat.add_comm]
theorem op_rep : OpR X (binaryOp .Mult) rRep := by
  intro pins s σ H x y v u Q I rx ry h
  obtain ⟨l, k, xs, rfl, rfl, hH, h1, h2, hz, q⟩ := h
  cases rx
  obtain ⟨t, rfl⟩ := ry
  obtain ⟨z, its, n, r, hl, e⟩ := I.lstM hH
  have hlen : its.toArray.size * k.toNat ≤ sizeLine := by rw [List.size_toArray, ← hl]; exact hz
  have hcap : ¬ its.toArray.size * k.toNat > (2 ^ 63 - 1) / 8 := by
    have : (sizeLine : Nat) ≤ (2 ^ 63 - 1) / 8 := by decide
    omega
  have hfit : ¬ (!Builtin.List.listFitsIndex k) = true := by
    rw [fitsIndex_both h1 h2]
    exact Bool.false_ne_true
  have hlong : ¬ Builtin.List.listTooLong (its.toArray.size * k.toNat) = true := by
    rw [notLongL hlen]
    exact Bool.false_ne_true
  have hnew : List.foldl (fun x1 x2 => x1 ++ x2) #[] (List.replicate (if its.toArray.isEmpty = true then 0 else k.toNat) its.toArray) = (List.replicate k.toNat its).flatten.toArray := by
    have f0 : ∀ m : Nat, List.foldl (fun x1 x2 => x1 ++ x2) #[] (List.replicate m its.toArray) = (List.replicate m its).flatten.toArray := fun m => by
      have := foldl_rep its m []
      rw [List.nil_append] at this
      exact this
    rw [f0]
    cases its with
    | nil => simp
    | cons a r' => rw [if_neg (by simp)]
  refine wpAny_binaryOp_repeat_ref (T := "list") (U := "int") (by decide) ⟨_, e, rfl⟩ (fun s' => typeIs_int s' k t) noFill_list_mul F.fills_int_mul F.slot_int_rmul repeat_list F.slot_int_index.lookup
    (call_meets F.slot_int_rmul (typeIs_int s k t) F.entry_int_rmul (F.args_int_rmul_2 _ _) (int___rmul___int_list k t l its.toArray n)
      ⟨e, rfl, ⟨_, e, rfl⟩, call_meets F.slot_list_mul ⟨_, e, rfl⟩ F.entry_list_mul (F.args_list_mul_2 _ _) (AutoListH.list___mul___list_int_3 l its.toArray n k t hfit hcap hlong) ⟨e, ?_⟩⟩)
  rw [hnew]
  exact ⟨.ref _, _, I.lnew (t' := s.toks) (r.rep k.toNat) (by rw [len_rep, Nat.mul_comm]; exact hz), rfl, q _ I.fresh⟩

/-! ### del xs[i] -/
end

/-! ### xs[a:b] = ys -/
section
variable {prog : Program} {w : World} {A : Around} {E : Value → Shared → Prop} {s : Shared}
end

section
variable {X : Cx}
end
end L2

namespace Att
open PySem PySem.W PySem.Calls PyProof.Rows

/-! ### the script -/
theorem ints_of_wellAll {P : Params} {h : Heap} : ∀ (ns : List Int) (vs : List Value), WellAll P h vs (ns.map WData.int) → IntsAre vs ns := by
  intro ns
  induction ns with
  | nil =>
    intro vs w
    rw [List.map_nil] at w
    cases w
    exact .nil
  | cons n ns ih =>
    intro vs w
    rw [List.map_cons] at w
    cases w with
    | cons a b =>
      cases a
      exact .cons _ _ (ih _ b)

theorem script_of {l : OpenLaw} {n : Nat} (hn : l.most = some n) {P : Params} {h : Heap} {args : List WData} {vals : List Value}
    (hpre : l.row.toRowW.claim.pre args = true) (hwl : WellAll P h vals args) :
    ∃ a vs ns, vals = [Value.ref a] ∧ args = [WData.list (ns.map WData.int)] ∧ h.get? a = some { cls := .type "list", data := .seq vs.toArray } ∧ IntsAre vs ns ∧ ns.length ≤ n := by
  have hsh : WShape.hasAll [] args [.list .int] = true := (pre_splitW hpre).1
  have hc : l.pre.holds [] { args := args } = true := (pre_splitW hpre).2
  obtain ⟨d, r, rfl, h1, h2⟩ := hasAllW_cons hsh
  obtain rfl := hasAllW_nil h2
  obtain ⟨xs, rfl, h3⟩ := hasW_list h1
  obtain ⟨ns, rfl⟩ := items_int h3
  have hlen : ns.length ≤ n := by
    unfold OpenLaw.pre at hc
    have h4 : (WTm.not (.lt (.lit (.int (n : Int))) (.len (.arg 0)))).holds [] { args := [.list (ns.map .int)] } = true := by
      have h4 := (holds_andW hc).1
      rw [hn] at h4
      exact h4
    have h5 := condW_of h4 (w_not (w_lt w_lit (w_len_list (w_arg rfl))))
    rw [List.length_map] at h5
    refine Nat.le_of_not_lt fun q => ?_
    have q' : (n : Int) < ((ns.length : Nat) : Int) := by omega
    first
      | (rw [decide_eq_true q'] at h5; exact absurd h5 (by decide))
      | (simp at h5; omega)
  cases hwl with
  | cons w1 w2 =>
    cases w2
    cases w1 with
    | list ho hall => exact ⟨_, _, ns, rfl, rfl, ho, ints_of_wellAll ns _ hall, hlen⟩

theorem post_true (l : OpenLaw) (args : List WData) : l.row.toRowW.claim.post args (.bool true) args = true :=
  postW_of (r := l.row.toRowW) (X := (true == true))
    (show WShape.has [] (.bool true) .bool = true by first | rfl | decide | simp [WShape.has, WShape.arms, WShape.armsAll])
    (show (WTm.eq .res (.lit (.bool true))).value [] { args := args, res := some (.bool true), after := args } = some (.bool (true == true)) from w_eq_bool (w_res rfl) w_lit) rfl

/-! ### the attachment: holds_open's last premise (the goal 'hc' behind k_head) from a wpAny of the law's body -/
/-! ### rules over ANY heap (no ledger) from facts about the written part K: the library's own take a ledger (News) for what they write -/
section
variable {prog : Program} {w : World} {A : Around} {E : Value → Shared → Prop} {s : Shared} {K : Frag}

/-! the whole heap as the ledger: makes every rule that writes through a ledger a rule over any heap -/
end
end Att

namespace L2
open PySem PySem.Spec PyProof.Rows

theorem vals_ints : ∀ {vs : List Value} {ns : List Int}, IntsAre vs ns → Vals (ns.map V.int) vs
  | _, _, .nil => .nil
  | _, _, .cons n t h => .cons ⟨t, rfl⟩ (vals_ints h)

def Only (H : Hp) : Prop := ∀ b, H b = none ∨ ∃ o xs, H b = some (.frz o (.lst xs))

theorem law_call {P : Program} {w : World} {K : PySem.W.Frag} {mg mb : Str → Option Value} {CX : CXT} {k : Nat} {fa a : Addr} {fd : FuncData} {x : Str} {sp : Sp} {s₁ : Shared} {vs : List Value} {ns : List Int}
    (KX : K.In s₁.heap) (hns : s₁.heap.Ns mainGlobals mg) (hb : s₁.heap.Ns builtinsNs mb) (hbb : ∀ x : Str, x ≠ "__name__" → mb x = bootBuiltins x) (hlim : s₁.heap.NoLimit) (hg : s₁.gens = #[])
    (ha : s₁.heap.get? a = some { cls := .type "list", data := .seq vs.toArray }) (hi : IntsAre vs ns) (hl : ns.length ≤ sizeLine) (hr : Room k callerA)
    (F : ∀ base : Heap, K.In base → base.Ns mainGlobals mg → FnOk P w K mg base CX k fa fd [x] sp) (hbind : ∀ (s : Shared) (u : Value), BindsTo s fd ⟨[u], []⟩ [(x, u)])
    (hsp : ∀ H : Hp, Only H → SqL K H a (ns.map V.int) → sp [.ref a] H (fun v _ => v = .bl true) fun _ _ _ => False)
    (hCX : ∀ H e s', CX [] H s₁ (fun _ _ _ => False) e s' → False) :
    codeAny (model P w) callerA (.call (.ref fa) ⟨[.ref a], []⟩) (fun r s' => r = .ok (.ret (.bool true)) ∧ OldK s₁.heap s'.heap ∧ s'.os = s₁.os ∧ AllBare s'.gens) s₁ := by
  have rv := vals_ints hi
  have lenV := hi.length
  -- from an abstract heap in which nothing but the script may be tracked
  have core : ∀ H : Hp, Only H → SqL K H a (ns.map V.int) → HOk P w H s₁.heap → (∀ b, H b ≠ none → b = a) → (H a ≠ none → K.lookup a = none) →
      codeAny (model P w) callerA (.call (.ref fa) ⟨[.ref a], []⟩) (fun r s' => r = .ok (.ret (.bool true)) ∧ OldK s₁.heap s'.heap ∧ s'.os = s₁.os ∧ AllBare s'.gens) s₁ := by
    intro H hO hS hok hA hK
    have base_of : ∀ {b : Addr} {o : Obj}, s₁.heap.get? b = some o → H b = none → (hidT s₁.heap H).get? b = some o := fun e n => hidT_get e n
    have noA : ∀ {b : Addr} {o : Obj} {es : Array DictEntry} {ep : Nat}, s₁.heap.get? b = some o → o.data = .dict es ep → H b = none := fun {b o es ep} e d => by
      cases q : H b with
      | none => rfl
      | some u =>
        have e' : b = a := hA b (by rw [q]; simp)
        subst e'
        rw [ha] at e; cases e
        have d' : Data.seq vs.toArray _ = Data.dict es ep := d
        cases d'
    have nsK : ∀ {b : Addr} {m : Str → Option Value}, s₁.heap.Ns b m → (hidT s₁.heap H).Ns b m := fun {b m} ⟨o, es, ep, e, d, r⟩ => ⟨o, es, ep, base_of e (noA e d), d, r⟩
    have hKb : K.In (hidT s₁.heap H) := fun b o e => base_of (KX b o e) (by
      cases q : H b with
      | none => rfl
      | some u =>
        have e' : b = a := hA b (by rw [q]; simp)
        subst e'
        rw [hK (by rw [q]; simp)] at e; cases e)
    have hM : Mod K mg (hidT s₁.heap H) := ⟨hKb, nsK hns, ⟨mb, nsK hb, hbb⟩, let ⟨mc, h1, h2⟩ := hlim; ⟨mc, nsK h1, h2⟩⟩
    have e0 : Env0 P w K mg (hidT s₁.heap H) callerA [] s₁ H := ⟨rfl, hM, fun b o e => of_hidT e, Nat.le_of_eq (hidT_size _ _), trivial, fun b hb => absurd (show b ∈ ([] : List Addr) from hb) (by simp), hok, .of_eq hg⟩
    refine codeAny_mono ((F _ hKb (nsK hns)).run callerA [] s₁ H ⟨[.ref a], []⟩ [.ref a] [.ref a] _ _ hr e0 (hbind s₁ (.ref a)) (.cons rfl .nil) (hsp H hO hS)) fun r s' h => ?_
    cases r with
    | error e => exact (hCX H e s' h).elim
    | ok fl =>
      cases fl with
      | next => exact False.elim h
      | brk => exact False.elim h
      | cont => exact False.elim h
      | ret u =>
        obtain ⟨v, H', os, bare, un, hok', r', q⟩ := h
        have q' : v = .bl true := q
        subst q'
        obtain rfl : u = Value.bool true := r'
        refine ⟨rfl, OldK.of_keep fun b o e => ?_, os, bare⟩
        cases q : H b with
        | none => exact un.keep b o e q (by intro z; exact absurd (show b ∈ ([] : List Addr) from z) (by simp)) (by simp)
        | some u =>
          rcases hO b with z | ⟨ob, xs, z⟩
          · rw [q] at z; cases z
          · have z2 := un.frzs b ob _ z
            obtain ⟨e1, _⟩ := hok b _ z
            obtain ⟨e2, _⟩ := hok' b _ z2
            rw [e] at e1; cases e1
            exact e2
  cases hk : K.lookup a with
  | some o =>
    -- the script is one of the module's own objects
    have e := KX a o hk
    rw [ha] at e
    cases e
    refine core (fun _ => none) (fun _ => .inl rfl) (.inr ⟨_, vs.toArray, _, hk, rfl, rfl, rfl, by rw [List.size_toArray, lenV]; exact hl, by simpa using rv⟩) (fun b u z => by have z' : (none : Option HO) = some u := z; cases z') (fun b z => absurd rfl z) fun z => absurd rfl z
  | none =>
    refine core (fun b => if b = a then some (.frz { cls := .type "list", data := .seq vs.toArray } (.lst (ns.map V.int))) else none) (fun b => ?_) (.inl (.inr ⟨{ cls := .type "list", data := .seq vs.toArray }, if_pos rfl⟩)) (fun b u z => ?_) (fun b z => ?_) fun _ => hk
    · by_cases hb : b = a
      · exact .inr ⟨_, _, if_pos hb⟩
      · exact .inl (if_neg hb)
    · by_cases hb : b = a
      · have z' := (if_pos hb).symm.trans z
        cases z'
        subst hb
        exact ⟨ha, by rw [List.length_map]; exact hl, vs, _, rv, ha⟩
      · have z' := (if_neg hb).symm.trans z
        cases z'
    · by_cases hb : b = a
      · exact hb
      · exact absurd (if_neg hb) z
end L2

namespace L2
open PySem PySem.Spec PyProof.Rows

end L2


/-! SHORT WORDS over the layer: a def of the text, its body, what a loop and a test want. -/
namespace L2
open PySem PySem.Spec PyProof.Rows

/-! ### the text by places -/
def inClass (s : Stmt) (j : Nat) : Stmt := match s with
  | .ClassDef _ _ _ body _ _ _ _ _ _ _ => body.getD j (.Pass ⟨0, 0, 0, 0⟩)
  | _ => .Pass ⟨0, 0, 0, 0⟩
def defArgs (s : Stmt) : Arguments := match s with
  | .FunctionDef _ a _ _ _ _ _ _ _ _ => a
  | _ => { posonlyargs := [], args := [], vararg := none, kwonlyargs := [], kw_defaults := [], kwarg := none, defaults := [] }
def defBody (s : Stmt) : List Stmt := match s with
  | .FunctionDef _ _ b _ _ _ _ _ _ _ => b
  | _ => []
def defScope (s : Stmt) : Scope := match s with
  | .FunctionDef _ _ _ _ _ _ sc _ _ _ => sc
  | _ => { kind := .function, names := [], isGenerator := false, isCoroutine := false }

/-! ### no exception leaves a def -/
abbrev CX0 : CXT := fun _ _ _ _ _ _ => False
abbrev E0 : XK := fun _ _ _ => False
theorem pass0 {X : Cx} : Passes CX0 X E0 := fun _ _ _ _ _ _ _ h => h.elim

/-! ### a def (or method) of the text as it stands behind the top -/
structure Fun (K : PySem.W.Frag) (x qual : Str) (st : Stmt) (f : Addr) (fd : FuncData) : Prop where
  ex : ∃ (oc : Value) (od : Option Addr) (kV doc pm : Value) (an : Option Addr) (cdv ct : Value) (osl : Array (Option Value)),
    fd = PySem.W.fnOf x qual (defArgs st) (defBody st) (defScope st) .none kV doc pm an cdv ct ∧ K.lookup f = some ⟨oc, od, .func fd, osl⟩ ∧ PySem.W.codeIn K cdv qual = true
  kp : PySem.W.keepIn K (.ref f) = true
section
variable {P : Program} {w : World} {K : PySem.W.Frag} {mg : Str → Option Value} {base : Heap}
theorem Fun.ok {x qual : Str} {st : Stmt} {f : Addr} {fd : FuncData} {N ps : List Str} {k : Nat} {sp : Sp} (F : Fun K x qual st f fd) (S : FnScope N ps (defScope st)) (len : ∀ vs H Q E, sp vs H Q E → vs.length = ps.length)
    (hbody : ∀ (cdv : Value) (A : Around) (outer : List Env) (s : Shared) (H : Hp) (vs : List V) (Q : VK) (E : XK), Room k (A.deeper (envOfC qual (defScope st) s.heap.objs.size f cdv)) → sp vs H Q E →
      ∃ t, PSs (cxOf CX0 P w K mg base N qual (defScope st) f cdv A outer s H E).nox (defBody st) t ∧ t { nx := fun _ H' => Q .non H', rt := Q } (start N vs) H) : FnOk P w K mg base CX0 (k + 1) f fd ps sp := by
  obtain ⟨oc, od, kV, doc, pm, an, cdv, ct, osl, rfl, lk, hcd⟩ := F.ex
  refine fn_of lk hcd S len fun A outer s H vs Q E hr hsp => ?_
  obtain ⟨t, h, q⟩ := hbody cdv A outer s H vs Q E hr hsp
  exact ⟨t, h.nox, q⟩
theorem fun_mk {x qual : Str} {st : Stmt} {f : Addr} {oc : Value} {od an : Option Addr} {osl : Array (Option Value)} {kV doc pm cdv ct : Value} (l : K.lookup f = some ⟨oc, od, .func (PySem.W.fnOf x qual (defArgs st) (defBody st) (defScope st) .none kV doc pm an cdv ct), osl⟩)
    (c : PySem.W.codeIn K cdv qual = true) (k : PySem.W.keepIn K (.ref f) = true) : Fun K x qual st f (PySem.W.fnOf x qual (defArgs st) (defBody st) (defScope st) .none kV doc pm an cdv ct) := ⟨⟨oc, od, kV, doc, pm, an, cdv, ct, osl, rfl, l, c⟩, k⟩
end
/-! ### expressions in short: the name that stands in the i-th slot -/
section
variable {X : Cx}
theorem pv (i : Nat) {x : Str} {pos : Pos} (hN : X.N[i]? = some x := by rfl) (hv : Vis X.env.scope x := by first | exact Or.inl rfl | exact Or.inr (Or.inl rfl) | exact Or.inr (Or.inr rfl)) (hd : (x == ("__debug__" : Str)) = false := by decide)
    (hcd : (x == ("__classdict__" : Str)) = false := by decide) : PE X (.Name x pos) (tVar i) := pe_var hN hv hd hcd
end

/-! ### tests -/
theorem iteF {A B : Prop} (h : B) : if false = true then A else B := by
  rw [if_neg Bool.false_ne_true]
  exact h
theorem iteT {A B : Prop} (h : A) : if true = true then A else B := by
  rw [if_pos rfl]
  exact h
/-! ### heaps -/
def Same (H H' : Hp) : Prop := ∀ b o, H b = some o → H' b = some o
theorem Same.refl (H : Hp) : Same H H := fun _ _ h => h
theorem Same.trans {H H1 H2 : Hp} (a : Same H H1) (b : Same H1 H2) : Same H H2 := fun c o h => b c o (a c o h)
theorem Same.seq {K : PySem.W.Frag} {H H' : Hp} {a : Addr} {xs : List V} (e : Same H H') (h : SqL K H a xs) : SqL K H' a xs := by
  rcases h with (h | ⟨o, h⟩) | h
  · exact .inl (.inl (e _ _ h))
  · exact .inl (.inr ⟨o, e _ _ h⟩)
  · exact .inr h

end L2


set_option maxHeartbeats 4000000
/-! more rules over the layer: great ints, is, tuples compared, lists unpacked, ranges by steps, list comprehensions -/
namespace L2
open PySem PySem.Spec PyProof.Rows

/-! ### great ints -/
def Sz (k : Nat) (x : Int) : Prop := x.natAbs < 2 ^ k
instance (k : Nat) (x : Int) : Decidable (Sz k x) := by unfold Sz; infer_instance
theorem Sz.mono {j k : Nat} {x : Int} (h : Sz j x) (hjk : j ≤ k) : Sz k x := Nat.lt_of_lt_of_le h (Nat.pow_le_pow_right (by decide) hjk)
theorem Sz.le {k : Nat} {x y : Int} (h : Sz k x) (hy : y.natAbs ≤ x.natAbs) : Sz k y := Nat.lt_of_le_of_lt hy h
theorem Sz.mul {j k : Nat} {x y : Int} (h : Sz j x) (h' : Sz k y) : Sz (j + k) (x * y) := by
  unfold Sz at *
  rw [Int.natAbs_mul, Nat.pow_add]
  exact Nat.mul_lt_mul'' h h'
theorem Sz.neg {k : Nat} {x : Int} (h : Sz k x) : Sz k (-x) := by unfold Sz at *; rwa [Int.natAbs_neg]
theorem Sz.add {j k : Nat} {x y : Int} (h : Sz j x) (h' : Sz k y) : Sz (max j k + 1) (x + y) := by
  have h1 := h.mono (Nat.le_max_left j k)
  have h2 := h'.mono (Nat.le_max_right j k)
  unfold Sz at *
  rw [Nat.pow_succ]
  have := Int.natAbs_add_le x y
  omega
theorem Sz.sub {j k : Nat} {x y : Int} (h : Sz j x) (h' : Sz k y) : Sz (max j k + 1) (x - y) := by
  have := h.add h'.neg
  rwa [← Int.sub_eq_add_neg] at this
theorem Sz.bits {k : Nat} {x : Int} (h : Sz k x) : Builtin.Int.intBits x ≤ k := by
  unfold Builtin.Int.intBits
  split
  · exact Nat.zero_le _
  · rename_i hx
    have hx' : x ≠ 0 := by simpa using hx
    have hn : x.natAbs ≠ 0 := by omega
    exact (Nat.log2_lt hn).mpr h
theorem Sz.log2 {k : Nat} {x : Int} (h : Sz k x) (hk : 0 < k) : x.natAbs.log2 < k := by
  by_cases hn : x.natAbs = 0
  · rw [hn]; simpa using hk
  · exact (Nat.log2_lt hn).mpr h
def CDivS (_i j : Int) : Prop := j ≠ 0 ∧ Sz 9000 j
section
variable {X : Cx}
theorem op_fdivS : OpR X (binaryOp .FloorDiv) (rI CDivS fun i j => .int (i.fdiv j)) := opI fun _ _ _ _ _ _ _ hc q => floordiv_int hc.1 q (.inl (PyProof.noPylong_of_log2 (hc.2.log2 (by decide))))
/-! ### is, is not of bools -/
/-! ### tuples of ints, == and != -/
theorem reads_tupI {h : Heap} {a : Addr} {vs : List Value} {ns : List Int} (hl : IsTup h a vs.toArray) (hi : IntsAre vs ns) : Reads h (.ref a) (.tuple (ns.map PyData.int)) [] := by
  obtain ⟨o, ho, hc, n, hd⟩ := hl
  exact Reads.tuple ho hc hd (by simpa using PySem.W.readsAll_of_ints hi)
theorem shaped_tupI (ns : List Int) : SeqAt.shaped (.tuple (ns.map PyData.int)) = true := by
  have h1 := PySem.W.depthAll_ints ns
  have h2 : PyData.depth (.tuple (ns.map PyData.int)) ≤ 64 := by simp only [PyData.depth]; omega
  show (PyData.canLay0 (.tuple (ns.map PyData.int)) && decide (PyData.depth (.tuple (ns.map PyData.int)) ≤ 64)) = true
  rw [Bool.and_eq_true]
  exact ⟨by simp only [PyData.canLay0]; exact PySem.W.canLayAll0_ints ns, decide_eq_true h2⟩
def rEqTI (K : PySem.W.Frag) (neg : Bool) : R2 := fun x y H Q => ∃ (a b : Addr) (ns ms : List Int), x = .ref a ∧ y = .ref b ∧ SqT K H a (ns.map V.int) ∧ SqT K H b (ms.map V.int) ∧ Q (.bl (if neg then !decide (ns = ms) else decide (ns = ms))) H
theorem op_eqTI (hu : X.A.units + 64 < cLine) : OpR X (compareOp .Eq) (rEqTI X.K false) := by
  intro pins s σ H x y v u Q I rx ry h
  obtain ⟨a, b, ns, ms, rfl, rfl, h1, h2, q⟩ := h
  cases rx; cases ry
  obtain ⟨its, rv, p, _⟩ := I.tuple h1
  obtain ⟨its', rv', p', _⟩ := I.tuple h2
  refine eq_dataH_same (reads_tupI p (intsAre_of rv)) (reads_tupI p' (intsAre_of rv')) (shaped_tupI ns) (shaped_tupI ms) hu (by simp only [SeqAt.noMix]; exact PySem.W.noMix_ints ns ms) ?_
  refine ⟨.bl (decide (ns = ms)), H, I, ?_, q⟩
  show _ = _
  simp only [PySem.Spec.same]
  rw [PySem.W.same_ints]
theorem op_neTI (hu : X.A.units + 64 < cLine) : OpR X (compareOp .NotEq) (rEqTI X.K true) := by
  intro pins s σ H x y v u Q I rx ry h
  obtain ⟨a, b, ns, ms, rfl, rfl, h1, h2, q⟩ := h
  cases rx; cases ry
  obtain ⟨its, rv, p, _⟩ := I.tuple h1
  obtain ⟨its', rv', p', _⟩ := I.tuple h2
  refine ne_dataH_same (reads_tupI p (intsAre_of rv)) (reads_tupI p' (intsAre_of rv')) (shaped_tupI ns) (shaped_tupI ms) hu (by simp only [SeqAt.noMix]; exact PySem.W.noMix_ints ns ms) ?_
  refine ⟨.bl (!decide (ns = ms)), H, I, ?_, q⟩
  show _ = _
  simp only [PySem.Spec.same]
  rw [PySem.W.same_ints]
/-! ### isinstance against a built-in class -/
theorem call_isinst : CallR X (.builtin "isinstance") (fun xs H Q => ∃ x T t b, xs = [x, .ty T] ∧ TyOf X.K H x t ∧ PySem.W.kitOne X.K t (.type T) = some b ∧ Q (.bl b) H) := by
  intro pins s σ H xs us Q I r h
  obtain ⟨x, T, t, b, rfl, ty, e, q⟩ := h
  obtain ⟨u, v, rfl, ru, rv⟩ := r.two
  cases rv
  exact isinst_ok I ru ty e fun tk => ⟨.bl b, H, I.tok tk, rfl, q⟩
end

/-! ### a list unpacked -/
section
variable {prog : Program} {w : World} {A : Around} {E : Value → Shared → Prop}
end
section
variable {X : Cx} {pos : Pos}
end

/-! ### range by steps -/
section
variable {X : Cx} {tg : Expr}
end
end L2

set_option maxHeartbeats 4000000
/-! list comprehensions of one clause without a test -/
namespace L2
open PySem PySem.Spec PyProof.Rows

theorem forIn_fold {α β : Type} {f : α → β → Sem (ForInStep β)} {g : β → α → β} : ∀ (l : List α) (b : β), (∀ x ∈ l, ∀ b, f x b = pure (.yield (g b x))) → forIn l b f = pure (l.foldl g b)
  | [], b, _ => rfl
  | x :: r, b, h => by
    rw [List.forIn_cons, h x List.mem_cons_self b, pure_bind]
    exact forIn_fold r (g b x) fun y hy => h y (List.mem_cons_of_mem _ hy)

def cloF (cells : List (Str × Addr)) (cs : List (Str × Addr)) (x : Str × NameKind) : List (Str × Addr) := if x.2 == .free then (x.1, (cells.lookup x.1).getD 0) :: cs else cs
def clo (names : List (Str × NameKind)) (cells : List (Str × Addr)) : List (Str × Addr) := names.foldl (cloF cells) []
theorem closure_eq {scope : Scope} {env : Env} (h : ∀ x ∈ scope.names, x.2 = .free → ∃ c, env.cells.lookup x.1 = some c) : closureFor scope env = pure (clo scope.names env.cells) := by
  simp only [closureFor]
  unfold clo
  rw [forIn_fold (g := cloF env.cells) scope.names [] (fun x hx b => by
    obtain ⟨n, k⟩ := x
    unfold cloF
    by_cases hk : k = .free
    · subst hk
      obtain ⟨c, hc⟩ := h (n, .free) hx rfl
      have hc' : env.cells.lookup n = some c := hc
      simp [cellOf, hc']
    · have hb : (k == NameKind.free) = false := by simpa using hk
      simp [hb])]
  rfl
theorem lookup_cons_eq {x n : Str} {c : Addr} {l : List (Str × Addr)} : List.lookup x ((n, c) :: l) = if x = n then some c else List.lookup x l := by
  by_cases h : x = n
  · subst h
    rw [if_pos rfl, List.lookup_cons_self]
  · rw [if_neg h, List.lookup_cons]
    have : (x == n) = false := by simpa using h
    rw [this]
theorem clo_sub {cells : List (Str × Addr)} : ∀ (names : List (Str × NameKind)) (cs : List (Str × Addr)), (∀ x ∈ names, x.2 = .free → ∃ c, cells.lookup x.1 = some c) → (∀ x c, cs.lookup x = some c → cells.lookup x = some c) →
    ∀ x c, (names.foldl (cloF cells) cs).lookup x = some c → cells.lookup x = some c
  | [], cs, _, h0 => h0
  | (n, k) :: r, cs, h, h0 => by
    refine clo_sub r _ (fun y hy => h y (List.mem_cons_of_mem _ hy)) fun x c e => ?_
    unfold cloF at e
    by_cases hk : k = .free
    · subst hk
      obtain ⟨c', hc'⟩ := h (n, .free) List.mem_cons_self rfl
      simp only [beq_self_eq_true, if_true] at e
      rw [lookup_cons_eq] at e
      have hc' : cells.lookup n = some c' := hc'
      by_cases hx : x = n
      · subst hx
        rw [if_pos rfl, hc'] at e
        rw [hc']
        exact e
      · rw [if_neg hx] at e
        exact h0 x c e
    · have hb : (k == NameKind.free) = false := by simpa using hk
      simp only [hb, Bool.false_eq_true, if_false] at e
      exact h0 x c e
theorem clo_some {cells : List (Str × Addr)} : ∀ (names : List (Str × NameKind)) (cs : List (Str × Addr)) (x : Str), ((x, NameKind.free) ∈ names ∨ ∃ c, cs.lookup x = some c) → ∃ c, (names.foldl (cloF cells) cs).lookup x = some c
  | [], cs, x, h => by
    rcases h with h | h
    · cases h
    · exact h
  | (n, k) :: r, cs, x, h => by
    refine clo_some r _ x ?_
    unfold cloF
    by_cases hk : k = .free
    · subst hk
      simp only [beq_self_eq_true, if_true]
      rw [lookup_cons_eq]
      by_cases hx : x = n
      · exact .inr ⟨_, if_pos hx⟩
      · rw [if_neg hx]
        rcases h with h | h
        · rcases List.mem_cons.mp h with h | h
          · exact absurd (congrArg Prod.fst h) hx
          · exact .inl h
        · exact .inr h
    · have hb : (k == NameKind.free) = false := by simpa using hk
      simp only [hb, Bool.false_eq_true, if_false]
      rcases h with h | h
      · rcases List.mem_cons.mp h with h | h
        · exact absurd (congrArg Prod.snd h).symm hk
        · exact .inl h
      · exact .inr h

structure LcOk (N : List Str) (osc sc : Scope) (Nc : List Str) (mp : List (Option Nat)) : Prop where
  kind : sc.kind = .function
  nocell : ∀ y ∈ sc.names, y.2 ≠ .cell
  names : ∀ y ∈ sc.names, y.2 = .local → sc.names.lookup y.1 = some .local
  free : ∀ y ∈ sc.names, y.2 = .free → osc.names.lookup y.1 = some .cell ∨ osc.names.lookup y.1 = some .free
  len : mp.length = Nc.length
  map : ∀ (i j : Nat), mp[i]? = some (some j) → ∃ x, Nc[i]? = some x ∧ N[j]? = some x ∧ sc.names.lookup x = some .free
def lcChk (N : List Str) (osc sc : Scope) (Nc : List Str) (mp : List (Option Nat)) : Bool :=
  decide (sc.kind = .function) && sc.names.all (fun y => !decide (y.2 = .cell) && (!decide (y.2 = .local) || decide (sc.names.lookup y.1 = some .local)) &&
    (!decide (y.2 = .free) || decide (osc.names.lookup y.1 = some .cell) || decide (osc.names.lookup y.1 = some .free))) &&
  decide (mp.length = Nc.length) && (List.range mp.length).all fun i => match mp[i]? with
    | some (some j) => match Nc[i]? with
      | some x => decide (N[j]? = some x) && decide (sc.names.lookup x = some .free)
      | none => false
    | _ => true
theorem LcOk.of {N : List Str} {osc sc : Scope} {Nc : List Str} {mp : List (Option Nat)} (h : lcChk N osc sc Nc mp = true) : LcOk N osc sc Nc mp := by
  unfold lcChk at h
  simp only [Bool.and_eq_true, decide_eq_true_eq, List.all_eq_true, Bool.or_eq_true, Bool.not_eq_true', decide_eq_false_iff_not] at h
  obtain ⟨⟨⟨h1, h2⟩, h3⟩, h4⟩ := h
  refine ⟨h1, fun y hy => (h2 y hy).1.1, fun y hy e => ?_, fun y hy e => ?_, h3, fun i j e => ?_⟩
  · rcases (h2 y hy).1.2 with q | q
    · exact absurd e q
    · exact q
  · rcases (h2 y hy).2 with (q | q) | q
    · exact absurd e q
    · exact .inl q
    · exact .inr q
  · have hi : i < mp.length := (List.getElem?_eq_some_iff.mp e).1
    have q := h4 i (List.mem_range.mpr hi)
    rw [e] at q
    cases hx : Nc[i]? with
    | none => rw [hx] at q; simp at q
    | some x =>
      rw [hx] at q
      simp only [Bool.and_eq_true, decide_eq_true_eq] at q
      exact ⟨x, rfl, q.1, q.2⟩
theorem lookup_map_free {f : Str × NameKind → Str × NameKind} (h1 : ∀ p, (f p).1 = p.1) (h2 : ∀ p, p.2 = .free → (f p).2 = .cell ∨ (f p).2 = .free) : ∀ {names : List (Str × NameKind)} {x : Str}, names.lookup x = some .free → (names.map f).lookup x = some .cell ∨ (names.map f).lookup x = some .free
  | [], _, h => by simp at h
  | (n, k) :: r, x, h => by
    have ih := @lookup_map_free f h1 h2 r x
    rw [List.map_cons]
    have q1 := h1 (n, k)
    have q2 := h2 (n, k)
    generalize f (n, k) = z at q1 q2
    obtain ⟨n', k'⟩ := z
    have q1' : n' = n := q1
    subst q1'
    cases hx : x == n' with
    | true =>
      rw [List.lookup_cons, hx] at h
      have hk : k = .free := by simpa using h
      rw [List.lookup_cons, hx]
      rcases q2 hk with e | e
      · have e' : k' = .cell := e
        subst e'
        exact .inl rfl
      · have e' : k' = .free := e
        subst e'
        exact .inr rfl
    | false =>
      rw [List.lookup_cons, hx] at h
      rw [List.lookup_cons, hx]
      exact ih h
theorem lookup_relabel_free {env : Env} {names : List (Str × NameKind)} {x : Str} (h : names.lookup x = some .free) :
    (names.map fun (n, k) => if (k == NameKind.free && env.scope.kind == .function && env.kindOf n == some .cell) then (n, NameKind.cell) else (n, k)).lookup x = some .cell ∨
    (names.map fun (n, k) => if (k == NameKind.free && env.scope.kind == .function && env.kindOf n == some .cell) then (n, NameKind.cell) else (n, k)).lookup x = some .free := by
  refine lookup_map_free (fun p => ?_) (fun p hp => ?_) h
  · obtain ⟨n, k⟩ := p
    dsimp only
    split <;> rfl
  · obtain ⟨n, k⟩ := p
    dsimp only
    split
    · exact .inl rfl
    · exact .inr hp
theorem relabel_has {env : Env} {names : List (Str × NameKind)} {x : Str} {k' : NameKind} (hc : ∀ y ∈ names, y.2 ≠ .cell) (hk : k' = .cell ∨ k' = .free)
    (h : (names.map fun (n, k) => if (k == NameKind.free && env.scope.kind == .function && env.kindOf n == some .cell) then (n, NameKind.cell) else (n, k)).lookup x = some k') : (x, NameKind.free) ∈ names := by
  have m := PySem.mem_of_lookup h
  obtain ⟨⟨n, k⟩, hm, e⟩ := List.mem_map.mp m
  dsimp only at e
  by_cases hf : k = .free
  · subst hf
    have e1 : n = x := by
      by_cases hc' : (NameKind.free == NameKind.free && env.scope.kind == .function && env.kindOf n == some .cell) = true
      · rw [if_pos hc'] at e
        exact congrArg Prod.fst e
      · rw [if_neg hc'] at e
        exact congrArg Prod.fst e
    exact e1 ▸ hm
  · have hb : (k == NameKind.free) = false := by simpa using hf
    simp only [hb, Bool.false_and, Bool.false_eq_true, if_false] at e
    cases e
    rcases hk with z | z
    · exact absurd z (hc _ hm)
    · exact absurd z hf

def cxLc (X : Cx) (scope : Scope) (Nc : List Str) (ex : List Addr) (pins : List (Addr × Obj)) (s : Shared) (H : Hp) : Cx where
  prog := X.prog
  w := X.w
  K := X.K
  mg := X.mg
  base := X.base
  A := X.A
  N := Nc
  s₀ := s
  H₀ := H
  env := compEnvC scope (clo scope.names X.env.cells) s.heap.objs.size X.env
  outer := X.stack
  stack := X.stack
  ex := ex
  fn := fun _ => false
  calm := X.calm
  pn := X.pn ++ pins
  xe := fun _ _ => False
def sub (mp : List (Option Nat)) (σ : St) : St := mp.map fun o => match o with | some j => (σ[j]?).join | none => none
theorem sub_get {mp : List (Option Nat)} {σ : St} {i : Nat} {v : V} (h : (sub mp σ)[i]? = some (some v)) : ∃ j, mp[i]? = some (some j) ∧ σ[j]? = some (some v) := by
  unfold sub at h
  rw [List.getElem?_map] at h
  cases e : mp[i]? with
  | none => rw [e] at h; cases h
  | some o =>
    rw [e] at h
    cases o with
    | none => cases h
    | some j =>
      refine ⟨j, rfl, ?_⟩
      have h' : (σ[j]?).join = some v := Option.some.inj h
      cases q : σ[j]? with
      | none => rw [q] at h'; cases h'
      | some z => rw [q] at h'; exact congrArg some h'

section
variable {X : Cx} {pins : List (Addr × Obj)} {σ : St} {H : Hp} {s : Shared} {scope : Scope} {Nc : List Str} {mp : List (Option Nat)} {fp : List Addr}
theorem lc_cells (I : Inv X pins σ H s) (S : LcOk X.N X.env.scope scope Nc mp) : ∀ x ∈ scope.names, x.2 = .free → ∃ c, X.env.cells.lookup x.1 = some c := fun x hx e =>
  I.ok.has x.1 (S.free x hx e)
theorem lc_sub (I : Inv X pins σ H s) (S : LcOk X.N X.env.scope scope Nc mp) {x : Str} {c : Addr} (h : (clo scope.names X.env.cells).lookup x = some c) : X.env.cells.lookup x = some c :=
  clo_sub scope.names [] (lc_cells I S) (fun _ _ e => by cases e) x c h
theorem lc_ok (I : Inv X pins σ H s) (S : LcOk X.N X.env.scope scope Nc mp) (hf : ∀ b ∈ fp, FpOk X pins H b) (hl : ∀ b ∈ fp, b < s.heap.objs.size) : (cxLc X scope Nc fp pins s H).Ok where
  mod := I.ok.mod
  kind := S.kind
  glob := I.ok.glob
  blt := I.ok.blt
  above := Nat.le_refl _
  inj := fun x y c e1 e2 => I.ok.inj x y c (lc_sub I S e1) (lc_sub I S e2)
  has := fun x h => by
    have hm : (x, NameKind.free) ∈ scope.names := by
      rcases h with h | h
      · exact relabel_has S.nocell (.inl rfl) h
      · exact relabel_has S.nocell (.inr rfl) h
    exact clo_some scope.names [] x (.inl hm)
  cab := fun x c h _ => by cases h
  hd := I.ok.hd
  frames := I.ok.frames
  stk := .inl rfl
  exf := fun b hb => ⟨Nat.ne_of_lt (hl b hb), fun x c e => (hf b hb).2.2.2.2.1 x c (lc_sub I S e)⟩
  bs := I.bs
  bsz := Nat.le_trans I.ok.bsz I.sz
  noex := fun b o e hb => by
    rcases (hf b hb).2.2.2.1 with z | z
    · exact I.ok.noex b o e z
    · exact absurd (Nat.lt_of_lt_of_le (Heap.lt_size e) (Nat.le_trans I.ok.bsz z)) (Nat.lt_irrefl _)
  exfs := fun b hb z => by
    rcases List.mem_cons.mp (I.stkSub b z) with e | e
    · exact (hf b hb).2.1 e
    · exact (hf b hb).2.2.1 e
  funs := I.stack
  frf := I.stkFree
theorem lc_start (I : Inv X pins σ H s) (S : LcOk X.N X.env.scope scope Nc mp) (hf : ∀ b ∈ fp, FpOk X pins H b) (hl : ∀ b ∈ fp, b < s.heap.objs.size) {h₁ : Heap} {m : Str → Option Value} {tk : Nat}
    (hn : h₁.Ns s.heap.objs.size m) (k : ∀ b o, s.heap.get? b = some o → h₁.get? b = some o) : Inv (cxLc X scope Nc fp pins s H) [] (sub mp σ) H { s with heap := h₁, toks := tk } := by
  refine ⟨lc_ok I S hf hl, rfl, I.bare, Un.kept k, ⟨m, hn, fun i x v e1 e2 _ => ?_⟩, fun x c e => ?_, I.hok.fresh (Nat.le_refl _), fun x c e => I.freeC x c (lc_sub I S e), fun p hp => ?_, I.hok.kept k, ?_⟩
  · obtain ⟨j, hj, hv⟩ := sub_get e2
    obtain ⟨y, y1, y2, y3⟩ := S.map i j hj
    have e1' : Nc[i]? = some x := e1
    rw [e1'] at y1
    cases y1
    have hm := PySem.mem_of_lookup y3
    have vis : Vis X.env.scope x := .inr (S.free _ hm rfl)
    obtain ⟨mo, _, hloc⟩ := I.loc
    obtain ⟨u, ru, lk⟩ := hloc j x v y2 hv vis
    refine ⟨u, ru, .inr ⟨lookup_relabel_free y3, ?_⟩⟩
    obtain ⟨c, hc⟩ := clo_some (cells := X.env.cells) scope.names [] x (.inl hm)
    have hc' := lc_sub I S hc
    rcases lk with ⟨z, _⟩ | ⟨_, c', z, q⟩
    · rcases S.free _ hm rfl with z' | z' <;> (have z'' : X.env.scope.names.lookup x = some .local := z; rw [z''] at z'; cases z')
    · rw [hc'] at z
      cases z
      obtain ⟨o, ho, hd⟩ := q
      exact ⟨c, hc, o, k c o ho, hd⟩
  · obtain ⟨v, o, ho, hd⟩ := I.cell x c (lc_sub I S e)
    exact ⟨v, o, k c o ho, hd⟩
  · have hp' : p ∈ X.pn ++ pins := by
      have : p ∈ (X.pn ++ pins) ++ [] := hp
      simpa using this
    obtain ⟨e, n, ne, nf, d⟩ := I.pin p hp'
    refine ⟨k _ _ e, n, Nat.ne_of_lt (Heap.lt_size e), fun z => ?_, d⟩
    rcases List.mem_cons.mp (I.stkSub p.1 z) with q | q
    · exact ne q
    · exact nf q
  · show (sub mp σ).length = Nc.length
    unfold sub
    rw [List.length_map]
    exact S.len
theorem lc_end (I : Inv X pins σ H s) (hf : ∀ b ∈ fp, FpOk X pins H b) {σ' : St} {H' : Hp} {s' : Shared} {pl : List (Addr × Obj)} (J : Inv (cxLc X scope Nc fp pins s H) pl σ' H' s') : Inv X pins σ H' s' :=
  I.call' J.os J.base J.hok J.bare fun b hb => ⟨(hf b hb).2.2.2.1, (hf b hb).2.1, (hf b hb).2.2.2.2.1, (hf b hb).2.2.2.2.2⟩
theorem Inv.turnedNew (I : Inv X pins σ H s) {C : Addr} {h' : Heap} {t' : Nat} (k : ∀ b o, b ≠ C → s.heap.get? b = some o → h'.get? b = some o) (hn : H C = none) (h1 : X.s₀.heap.objs.size ≤ C)
    (hL : C ≠ X.env.locals) (hc : ∀ x c, X.env.cells.lookup x = some c → c ≠ C) (hp : ∀ p ∈ X.pn ++ pins, p.1 ≠ C) : Inv X pins σ H { s with heap := h', toks := t' } :=
  I.turned k hn hL (.inr h1) hc hp
end

section
variable {M : Model} {A : Around} {E : Value → Shared → Prop}
abbrev Calm : Value → Shared → Prop := fun _ _ => False
theorem thenC {α β : Type} {m : Sem α} {f : α → Sem β} {P : α → Shared → Prop} {Q : β → Shared → Prop} {s : Shared} (h : wpAny M A m P Calm s) (k : ∀ x s', P x s' → wpAny M A (f x) Q E s') : wpAny M A (m >>= f) Q E s :=
  wpAny_bind (wpAny_mono h k fun _ _ z => z.elim)
end
theorem compLoop_calm {prog : Program} {w : World} {A : Around} {R : Result → Shared → Prop} {s : Shared} {e t i : Expr} {sc : Scope} {pos : Pos} {it acc : Value} {env : Env} (J : Nat → Shared → Prop)
    (turn : ∀ n s, J n s → wpAny (model prog w) A (pyNext it) (fun r s1 => (r = none → R (.ok .next) s1) ∧ ∀ v, r = some v →
      wpAny (model prog w) A (letOwnedTupleGo t it v) (fun _ s2 => wpAny (model prog w) A (assign t env v) (fun _ s3 => wpAny (model prog w) A (eval e env) (fun x s4 =>
        wpAny (model prog w) A (call (.builtin "list.append") [acc, x]) (fun _ s5 => ∃ m, m < n ∧ J m s5) Calm s4) Calm s3) Calm s2) Calm s1) Calm s)
    (n : Nat) (h : J n s) : codeAny (model prog w) A (.compLoop (.ListComp e [⟨t, i, [], 0⟩] sc pos) 0 it acc env) R s := by
  have eq := compTurn_list1 e t i sc pos it acc env
  refine codeAny_loop rfl J (fun n s j => wpAny_noted (m := compTurn (.ListComp e [⟨t, i, [], 0⟩] sc pos) 0 it acc env) ?_) n h
  rw [eq]
  refine wpAny_bind (wpAny_standAt (thenC (turn n s j) fun r s1 q => ?_))
  match r, q with
  | none, q => exact wpAny_pure (q.1 rfl)
  | some v, q => exact thenC (q.2 v rfl) fun _ s2 q2 => thenC q2 fun _ s3 q3 => wpAny_bind (thenC q3 fun x s4 q4 => thenC q4 fun _ s5 q5 => wpAny_pure (wpAny_pure ⟨rfl, q5⟩))

def LcW (J : It) (g : TG) (te : TE) (σ : St) (H : Hp) (acc : Addr) (Q : VK) : Prop := ∃ W : Nat → Nat → List V → St → Hp → Prop, (∃ m, W 0 m [] σ (upd H acc (.lst []))) ∧
  ∀ i m ys σ2 H2, W i m ys σ2 H2 → (J.stop i H2 ∧ Q (.ref acc) H2) ∨ (J.go i H2 ∧ ∀ x H3, J.yld i H2 x H3 → g x σ2 H3 fun σ4 H4 => te σ4 H4 fun y H5 =>
    H5 acc = some (.lst ys) ∧ ys.length < sizeLine ∧ ∃ m', m' < m ∧ W (i + 1) m' (ys ++ [y]) σ4 (upd H5 acc (.lst (ys ++ [y]))))
def tLc (mp : List (Option Nat)) (wi : TI) (g : TG) (te : TE) : TE := fun σ H Q => wi σ H fun J H1 => ∀ acc, H1 acc = none → LcW J g te (sub mp σ) H1 acc Q

section
variable {X : Cx} {elt tg iter : Expr} {scope : Scope} {pos : Pos} {wi : TI} {g : TG} {te : TE} {Nc : List Str} {mp : List (Option Nat)}
abbrev withList (s : Shared) : Shared := { s with heap := s.heap.push { cls := .type "list", dict := none, data := .seq ([] : List Value).toArray } }
theorem lc_run (hc : X.calm = true) (S : LcOk X.N X.env.scope scope Nc mp) (hg : ∀ ex pins s H, PG (cxLc X scope Nc ex pins s H) tg g) (he : ∀ ex pins s H, PE (cxLc X scope Nc ex pins s H) elt te)
    {pins : List (Addr × Obj)} {σ : St} {H2 : Hp} {s2 : Shared} {E : Value → Shared → Prop} {it : Addr} {fp : List Addr} {tn : Nat → Heap → Prop} {J : It} {Q : VK} {RR : Value → Addr → Result → Shared → Prop}
    (I2 : Inv X pins σ H2 s2) (T : Turn X.prog X.w X.K tg J fp it tn) (st2 : tn 0 s2.heap) (f2 : ∀ b ∈ fp, FpOk X pins H2 b)
    (q : ∀ acc, H2 acc = none → LcW J g te (sub mp σ) H2 acc Q)
    (fin : ∀ acc C H' s' m', Q (.ref acc) H' → Inv X pins σ H' s' → s'.heap.Ns C m' → H' C = none → X.s₀.heap.objs.size ≤ C → C ≠ X.env.locals → (∀ x c, X.env.cells.lookup x = some c → c ≠ C) → (∀ p ∈ X.pn ++ pins, p.1 ≠ C) → RR (.ref acc) C (.ok .next) s') :
    wpAny (model X.prog X.w) X.A (newList []) (fun acc s₃ => wpAny (model X.prog X.w) X.A (newFunctionEnv scope X.env.globals (clo scope.names X.env.cells) [] X.env.qual none .none (some X.env)) (fun cenv s₄ =>
      codeAny (model X.prog X.w) X.A (.compStart (.ListComp elt [⟨tg, iter, [], 0⟩] scope pos) 0 (.ref it) acc { cenv with scope := relabel scope X.env }) (RR acc cenv.locals) s₄) E s₃) E s2 := by
  refine wpAny_newObj_type (wpAny_newFunctionEnv S.nocell (by intro y hy; simp at hy) (fun h₁ hns₁ hsb₁ => ?_) S.kind)
  dsimp only at hns₁ hsb₁ ⊢
  have I3 := I2.lnew (its := []) (ys := []) (t' := s2.toks) .nil (Nat.zero_le _)
  have hacc : H2 s2.heap.objs.size = none := I2.fresh
  obtain ⟨W, ⟨m0, w0⟩, turn⟩ := q s2.heap.objs.size hacc
  have hpush : (s2.heap.push { cls := .type "list", dict := none, data := .seq ([] : List Value).toArray }).objs.size = s2.heap.objs.size + 1 := Heap.size_push ..
  have hlt : ∀ b ∈ fp, b < s2.heap.objs.size := fun b hb => by
    obtain ⟨o, e, _⟩ := T.obj _ _ st2 b hb
    exact Heap.lt_size e
  have f3 : ∀ b ∈ fp, FpOk X pins (upd H2 s2.heap.objs.size (.lst [])) b := fun b hb => ⟨by rw [upd_ne (Nat.ne_of_lt (hlt b hb))]; exact (f2 b hb).1, (f2 b hb).2⟩
  have I3' : Inv X pins σ (upd H2 s2.heap.objs.size (.lst [])) (withList s2) := I3
  have hsz : (withList s2).heap.objs.size = s2.heap.objs.size + 1 := hpush
  have hlt3 : ∀ b ∈ fp, b < (withList s2).heap.objs.size := fun b hb => by rw [hsz]; exact Nat.lt_succ_of_lt (hlt b hb)
  have k3 : ∀ b o, (withList s2).heap.get? b = some o → h₁.get? b = some o := fun b o e => hsb₁.extBut b o (Nat.ne_of_lt (Heap.lt_size e)) (Heap.get?_push_of_some _ e)
  have Ic := lc_start (tk := (withList s2).toks) I3' S f3 hlt3 hns₁ k3
  have st3 : tn 0 h₁ := T.keep _ _ _ st2 fun b hb o e => k3 b o (Heap.get?_push_of_some _ e)
  -- what the block's frame is to the def
  have cC : X.s₀.heap.objs.size ≤ (withList s2).heap.objs.size := I3'.sz
  have cL : (withList s2).heap.objs.size ≠ X.env.locals := Nat.ne_of_gt I3'.lt
  have cc : ∀ x c, X.env.cells.lookup x = some c → c ≠ (withList s2).heap.objs.size := fun x c e => by
    obtain ⟨v, o, ho, _⟩ := I3'.cell x c e
    exact Nat.ne_of_lt (Heap.lt_size ho)
  have cp : ∀ p ∈ X.pn ++ pins, p.1 ≠ (withList s2).heap.objs.size := fun p hp => Nat.ne_of_lt (Heap.lt_size (I3'.pin p hp).1)
  have stat : ∀ {H' : Hp}, (∀ b ∈ fp, H' b = none) → ∀ b ∈ fp, FpOk (cxLc X scope Nc fp pins (withList s2) (upd H2 s2.heap.objs.size (.lst []))) [] H' b := fun hn b hb =>
    ⟨hn b hb, Nat.ne_of_lt (hlt3 b hb), fun z => by
      rcases List.mem_cons.mp (I3'.stkSub b z) with e | e
      · exact (f3 b hb).2.1 e
      · exact (f3 b hb).2.2.1 e, .inl hb, fun x c e => (f3 b hb).2.2.2.2.1 x c (lc_sub I3' S e), fun p hp => (f3 b hb).2.2.2.2.2 p (by
        have : p ∈ (X.pn ++ pins) ++ [] := hp
        simpa using this)⟩
  have loop : ∀ s4 : Shared, s4 = { (withList s2) with heap := h₁, toks := (withList s2).toks } →
      codeAny (model X.prog X.w) X.A (.compLoop (.ListComp elt [⟨tg, iter, [], 0⟩] scope pos) 0 (.ref it) (.ref s2.heap.objs.size) (cxLc X scope Nc fp pins (withList s2) (upd H2 s2.heap.objs.size (.lst []))).env)
        (RR (.ref s2.heap.objs.size) (withList s2).heap.objs.size) s4 := by
    rintro s4 rfl
    refine compLoop_calm (fun n s' => ∃ i ys σ' H', Inv (cxLc X scope Nc fp pins (withList s2) (upd H2 s2.heap.objs.size (.lst []))) [] σ' H' s' ∧ tn i s'.heap ∧ (∀ b ∈ fp, H' b = none) ∧ W i n ys σ' H') ?_ m0
      ⟨0, [], sub mp σ, _, Ic, st3, fun b hb => (f3 b hb).1, w0⟩
    rintro n s5 ⟨i, ys, σ5, H5, I5, st5, fr5, w5⟩
    rcases turn i n ys σ5 H5 w5 with ⟨stop, qn⟩ | ⟨go, step⟩
    · refine wpAny_mono (T.done (cxLc X scope Nc fp pins (withList s2) (upd H2 s2.heap.objs.size (.lst []))) rfl rfl rfl hc i [] s5 σ5 H5 (fun _ _ => False) I5 (stat fr5) st5 stop) (fun r s6 ⟨hr, I6⟩ => ?_) fun _ _ f => f.elim
      subst hr
      obtain ⟨m6, hn6, _⟩ := I6.loc
      refine ⟨fun _ => ?_, fun _ z => nomatch z⟩
      exact fin _ _ H5 s6 m6 qn (lc_end I3' f3 I6) hn6 I6.free cC cL cc cp
    · refine wpAny_mono (T.item (cxLc X scope Nc fp pins (withList s2) (upd H2 s2.heap.objs.size (.lst []))) rfl rfl rfl hc i [] s5 σ5 H5 (fun _ _ => False) I5 (stat fr5) st5 go) (fun r s6 ⟨u, hr, h6⟩ => ?_) fun _ _ f => f.elim
      subst hr
      refine ⟨(fun z => by cases z), ?_⟩
      rintro _ ⟨⟩
      refine wpAny_mono h6 (fun _ s7 ⟨x, H7, I7, r7, y7, st7, fr7⟩ => ?_) fun _ _ f => f.elim
      have I7' := I7.pinned (stat fr7) (T.obj _ _ st7)
      refine wpAny_mono (hg _ _ _ _ _ s7 σ5 H7 x u _ I7' r7 (step x H7 y7)) (fun _ s8 ⟨σ8, H8, I8, q8⟩ => ?_) fun _ _ f => f.elim
      refine wpAny_mono (he _ _ _ _ _ s8 σ8 H8 _ I8 q8) (fun v s9 ⟨y, H9, I9, r9, a9, l9, m', hm', w9⟩ => ?_) fun _ _ f => f.elim
      refine wpAny_mono (mt_append (X := cxLc X scope Nc fp pins (withList s2) (upd H2 s2.heap.objs.size (.lst []))) _ s9 σ8 H9 (.ref s2.heap.objs.size) [y] (.ref s2.heap.objs.size) [v] (fun z Hz => z = .non ∧ Hz = upd H9 s2.heap.objs.size (.lst (ys ++ [y]))) I9 rfl (.cons r9 .nil) ⟨_, ys, y, rfl, rfl, a9, l9, rfl, rfl⟩) (fun v10 s10 ⟨z, H10, I10, _, _, e10⟩ => ?_) fun _ _ f => f.elim
      subst e10
      refine ⟨m', hm', i + 1, ys ++ [y], σ8, _, I10.unpinned, T.keep _ _ _ st7 fun b hb o e => (I10.pin (b, o) (List.mem_append_right _ (List.mem_append_right _ (mem_pinsAt hb e)))).1, fun b hb => ?_, w9⟩
      obtain ⟨o, e, d⟩ := T.obj _ _ st7 b hb
      exact (I10.pin (b, o) (List.mem_append_right _ (List.mem_append_right _ (mem_pinsAt hb e)))).2.1
  exact codeAny_compStart_list (loop _ rfl) (T.self _ 0 _ _ _ st3 (loop _ rfl))
theorem pe_lc (hc : X.calm = true) (S : LcOk X.N X.env.scope scope Nc mp) (hi : PI X tg iter wi) (hg : ∀ ex pins s H, PG (cxLc X scope Nc ex pins s H) tg g) (he : ∀ ex pins s H, PE (cxLc X scope Nc ex pins s H) elt te)
    (hf : ∀ x, foldedSetIterable iter X.env x = pure x := by intro _; rfl) : PE X (.ListComp elt [⟨tg, iter, [], 0⟩] scope pos) (tLc mp wi g te) := by
  intro pins s σ H Q I h
  rw [eval_ListComp]
  refine wpAny_comprehension_free (use := none) rfl hf (closure_eq (lc_cells I S)) S.kind S.names (thn (hi pins s σ H _ I h) fun v s1 h1 => thn h1 fun itv s2 h2 => ?_)
  obtain ⟨it, fp, tn, J, H2, e, I2, T, st2, f2, q⟩ := h2
  subst e
  refine lc_run (RR := fun acc C => compPost (model X.prog X.w) X.A X.xe none (EP X pins σ Q) acc C) hc S hg he I2 T st2 f2 q ?_
  intro acc C H' s' m' qq I' hn hC c1 c2 c3 c4
  refine ⟨m', hn, fun h' hs => ⟨.ref acc, H', ?_, rfl, qq⟩⟩
  exact I'.turnedNew (t' := s'.toks) (fun b o hb e => hs.extBut b o hb e) hC c1 c2 c3 c4
theorem ps_setLc {i : Nat} {x : Str} {pos' spos : Pos} (hc : X.calm = true) (hN : X.N.Nodup) (hi' : X.N[i]? = some x) (hx : X.env.scope.names.lookup x = some .local) (S : LcOk X.N X.env.scope scope Nc mp) (hi : PI X tg iter wi)
    (hg : ∀ ex pins s H, PG (cxLc X scope Nc ex pins s H) tg g) (he : ∀ ex pins s H, PE (cxLc X scope Nc ex pins s H) elt te)
    (hsw : swapsWith (.ListComp elt [⟨tg, iter, [], 0⟩] scope pos) (some (.Name x pos')) spos.line X.env = pure true)
    (hf : ∀ x, foldedSetIterable iter X.env x = pure x := by intro _; rfl) : PS X (.Assign [.Name x pos'] (.ListComp elt [⟨tg, iter, [], 0⟩] scope pos) spos) (tAsg (tLc mp wi g te) (gName i)) := by
  intro pins s σ H D I h
  rw [exec_Assign_Name_used _ _ _ _ hsw]
  refine wpAny_bind (wpAny_standAt (wpAny_bind ?_))
  show wpAny _ X.A (do let _ ← comprehension (.ListComp elt [⟨tg, iter, [], 0⟩] scope pos) scope X.env _ (newList []) false (eval iter X.env) (some (assign (.Name x pos') X.env))) _ _ s
  refine wpAny_bind (wpAny_mono (wpAny_comprehension_free (use := some (assign (.Name x pos') X.env)) (Q := fun _ s' => SP X pins D .next s') rfl hf (closure_eq (lc_cells I S)) S.kind S.names
    (thn (hi pins s σ H _ I h) fun v s1 h1 => thn h1 fun itv s2 h2 => ?_)) (fun _ s' hq => wpAny_pure (wpAny_pure hq)) fun _ _ e => e)
  obtain ⟨it, fp, tn, J, H2, e, I2, T, st2, f2, q⟩ := h2
  subst e
  refine lc_run (Q := fun x H1 => gName i x σ H1 D.nx) (RR := fun acc C => compPost (model X.prog X.w) X.A X.xe (some (assign (.Name x pos') X.env)) (fun _ s' => SP X pins D .next s') acc C) hc S hg he I2 T st2 f2 q ?_
  intro acc C H' s' m' qq I' hn hC c1 c2 c3 c4
  show wpAny _ X.A (assign (.Name x pos') X.env (.ref acc)) _ _ _
  refine wpAny_assign_Name (store_ok2 (v := .ref acc) I' hN hi' (.inl hx) rfl (fun s5 I5 ⟨a, hs5, ha⟩ => ?_) (.inr hx))
  have hCa : C ≠ a := by
    rcases ha with z | z
    · rw [z]; exact c2
    · exact Ne.symm (c3 x a z)
  refine ⟨m', hn.sameBut hs5 hCa, fun h' hs => ⟨σ.set i (some (.ref acc)), H', ?_, qq⟩⟩
  exact I5.turnedNew (t' := s5.toks) (fun b o hb e => hs.extBut b o hb e) hC c1 c2 c3 c4
end

/-! ### the forms one uses: the block's own name first -/
theorem lc_by {J : It} {n : Nat} {val : Nat → V} {te : TE} {fr : St} {H1 : Hp} {acc : Addr} {Q : VK} (Pv : Nat → List V → Hp → Prop) (hn : n ≤ sizeLine) (h0 : Pv 0 [] (upd H1 acc (.lst [])))
    (hgo : ∀ i ys H, i < n → Pv i ys H → J.go i H ∧ ∀ x H', J.yld i H x H' → H' = H ∧ x = val i) (hst : ∀ ys H, Pv n ys H → J.stop n H)
    (hs : ∀ i ys H (N : V → Hp → Prop), i < n → ys.length = i → Pv i ys H → (∀ y H5, H5 acc = some (.lst ys) → Pv (i + 1) (ys ++ [y]) (upd H5 acc (.lst (ys ++ [y]))) → N y H5) → te (some (val i) :: fr) H N)
    (hd : ∀ ys H, ys.length = n → Pv n ys H → Q (.ref acc) H) :
    LcW (J) (gName 0) te (none :: fr) H1 acc Q := by
  refine ⟨fun i m ys σ2 H2 => m = n - i ∧ i ≤ n ∧ ys.length = i ∧ (∃ v, σ2 = v :: fr) ∧ Pv i ys H2, ⟨n, by simp, Nat.zero_le _, rfl, ⟨_, rfl⟩, h0⟩, ?_⟩
  rintro i m ys σ2 H2 ⟨rfl, hi, hl, ⟨v, rfl⟩, p⟩
  by_cases hlt : i < n
  · obtain ⟨go, yl⟩ := hgo i ys H2 hlt p
    refine .inr ⟨go, fun x H3 y3 => ?_⟩
    obtain ⟨e1, e2⟩ := yl x H3 y3
    subst e1 e2
    show te ((v :: fr).set 0 (some (val i))) H3 _
    rw [List.set_cons_zero]
    refine hs i ys H3 _ hlt hl p fun y H5 a5 p5 => ⟨a5, by omega, n - (i + 1), by omega, rfl, hlt, by rw [List.length_append, hl]; rfl, ⟨_, rfl⟩, p5⟩
  · have e : i = n := by omega
    subst e
    exact .inl ⟨hst ys H2 p, hd ys H2 hl p⟩
theorem lc_range {lo : Int} {n : Nat} {te : TE} {fr : St} {H1 : Hp} {acc : Addr} {Q : VK} (Pv : Nat → List V → Hp → Prop) (hn : n ≤ sizeLine) (h0 : Pv 0 [] (upd H1 acc (.lst [])))
    (hs : ∀ i ys H (N : V → Hp → Prop), i < n → ys.length = i → Pv i ys H → (∀ y H5, H5 acc = some (.lst ys) → Pv (i + 1) (ys ++ [y]) (upd H5 acc (.lst (ys ++ [y]))) → N y H5) → te (some (.int (lo + i)) :: fr) H N)
    (hd : ∀ ys H, ys.length = n → Pv n ys H → Q (.ref acc) H) :
    LcW (Itr lo n) (gName 0) te (none :: fr) H1 acc Q :=
  lc_by (J := Itr lo n) (val := fun i => .int (lo + i)) Pv hn h0 (fun i ys H hi p => ⟨hi, fun x H' y => y⟩) (fun ys H p => Nat.le_refl _) hs hd
theorem lc_list {K : PySem.W.Frag} {a : Addr} {xs : List V} {te : TE} {fr : St} {H1 : Hp} {acc : Addr} {Q : VK} (Pv : Nat → List V → Hp → Prop) (hn : xs.length ≤ sizeLine) (h0 : Pv 0 [] (upd H1 acc (.lst [])))
    (hl : ∀ i ys H, Pv i ys H → SqL K H a xs)
    (hs : ∀ i x ys H (N : V → Hp → Prop), xs[i]? = some x → ys.length = i → Pv i ys H → (∀ y H5, H5 acc = some (.lst ys) → Pv (i + 1) (ys ++ [y]) (upd H5 acc (.lst (ys ++ [y]))) → N y H5) → te (some x :: fr) H N)
    (hd : ∀ ys H, ys.length = xs.length → Pv xs.length ys H → Q (.ref acc) H) :
    LcW (Itl K a) (gName 0) te (none :: fr) H1 acc Q :=
  lc_by (J := Itl K a) (n := xs.length) (val := fun i => xs.getD i .non) Pv hn h0
    (fun i ys H hi p => ⟨⟨xs, xs[i], hl i ys H p, by simp [hi]⟩, fun x H' y => ⟨y.1, by
      have := y.2 xs (hl i ys H p)
      rw [List.getD_eq_getElem?_getD, this]; rfl⟩⟩)
    (fun ys H p => ⟨xs, hl _ ys H p, Nat.le_refl _⟩)
    (fun i ys H N hi hl' p k => by
      have e : xs[i]? = some (xs.getD i .non) := by rw [List.getD_eq_getElem?_getD, List.getElem?_eq_getElem hi]; rfl
      exact hs i _ ys H N e hl' p k) hd
end L2

set_option maxHeartbeats 4000000
/-! short words: callees, tests, sizes -/
namespace L2
open PySem PySem.Spec PyProof.Rows

structure Cal (P : Program) (w : World) (K : PySem.W.Frag) (mg : Str → Option Value) (base : Heap) (k : Nat) (x : Str) (ps : List Str) (sp : Sp) : Prop where
  ex : ∃ f fd, FnOk P w K mg base CX0 k f fd ps sp ∧ Binds K fd ps [] ∧ PySem.W.keepIn K (.ref f) = true ∧ mg x = some (.ref f)
theorem Cal.mono {P : Program} {w : World} {K : PySem.W.Frag} {mg : Str → Option Value} {base : Heap} {j k : Nat} {x : Str} {ps : List Str} {sp : Sp} (c : Cal P w K mg base j x ps sp) (h : j ≤ k) : Cal P w K mg base k x ps sp :=
  let ⟨f, fd, F, b, kp, m⟩ := c.ex
  ⟨f, fd, F.mono h, b, kp, m⟩
section
variable {X : Cx} {k : Nat} {x : Str} {ps : List Str} {sp : Sp} {p pos : Pos} {e : Expr} {es : List Expr} {t : TA}
theorem pe_cal (c : Cal X.prog X.w X.K X.mg X.base k x ps sp) (hr : Room k X.A) (hg : Gl X x) (ha : PA X (e :: es) t) (hdb : (x == ("__debug__" : Str)) = false := by decide)
    (he : starEach (e :: es) X.env = (false, eval e X.env) :: starEach es X.env := by rfl) (hpl : (backTo pos (starEach es X.env)).any (·.1) = false := by rfl) : PE X (.Call (.Name x p) (e :: es) [] pos) (tCall sp [] E0 t) := by
  obtain ⟨f, fd, F, b, kp, m⟩ := c.ex
  exact pe_call F hr hg m kp b .nil pass0 ha hdb he hpl
end

structure FunAt (K : PySem.W.Frag) (x : Str) (st : Stmt) (dV : Value) : Prop where
  ex : ∃ (f : Addr) (oc : Value) (od : Option Addr) (kV doc pm : Value) (an : Option Addr) (cdv ct : Value) (osl : Array (Option Value)),
    K.lookup f = some ⟨oc, od, .func (PySem.W.fnOf x x (defArgs st) (defBody st) (defScope st) dV kV doc pm an cdv ct), osl⟩ ∧ PySem.W.codeIn K cdv x = true ∧ PySem.W.keepIn K (.ref f) = true ∧ PySem.W.nsIn K mainGlobals x = some (some (.ref f))
theorem fat {K : PySem.W.Frag} {x : Str} {st : Stmt} {f : Addr} {oc : Value} {od an : Option Addr} {osl : Array (Option Value)} {dV kV doc pm cdv ct : Value} (a : PySem.W.nsIn K mainGlobals x = some (some (.ref f)))
    (l : K.lookup f = some ⟨oc, od, .func (PySem.W.fnOf x x (defArgs st) (defBody st) (defScope st) dV kV doc pm an cdv ct), osl⟩) (c : PySem.W.codeIn K cdv x = true) (k : PySem.W.keepIn K (.ref f) = true) : FunAt K x st dV :=
  ⟨f, oc, od, kV, doc, pm, an, cdv, ct, osl, l, c, k, a⟩
def BindsAll (K : PySem.W.Frag) (x : Str) (st : Stmt) (dV : Value) (ps : List Str) : Prop := ∀ (kV doc pm : Value) (an : Option Addr) (cdv ct : Value), Binds K (PySem.W.fnOf x x (defArgs st) (defBody st) (defScope st) dV kV doc pm an cdv ct) ps []
theorem binds0 {K : PySem.W.Frag} {x : Str} {st : Stmt} {ps : List Str}
    (h : ∀ (kV doc pm : Value) (an : Option Addr) (cdv ct : Value) (us : List Value), us.length = ps.length → bindArgs (PySem.W.fnOf x x (defArgs st) (defBody st) (defScope st) .none kV doc pm an cdv ct) ⟨us, []⟩ = pure (ps.zip us)) : BindsAll K x st .none ps :=
  fun kV doc pm an cdv ct => .all (h kV doc pm an cdv ct)
theorem bnd0 {K : PySem.W.Frag} {nm : Str} {st : Stmt} (h : ∀ (kV doc pm : Value) (an : Option Addr) (cdv ct : Value), bindArgs (PySem.W.fnOf nm nm (defArgs st) (defBody st) (defScope st) .none kV doc pm an cdv ct) ⟨[], []⟩ = pure []) : BindsAll K nm st .none [] := binds0 fun kV doc pm an cdv ct us hl => by
  cases us with
  | nil => exact h kV doc pm an cdv ct
  | cons => cases hl
theorem bnd1 {K : PySem.W.Frag} {nm : Str} {st : Stmt} {x0 : Str} (h : ∀ (kV doc pm : Value) (an : Option Addr) (cdv ct : Value) (a0 : Value), bindArgs (PySem.W.fnOf nm nm (defArgs st) (defBody st) (defScope st) .none kV doc pm an cdv ct) ⟨[a0], []⟩ = pure [(x0, a0)]) : BindsAll K nm st .none [x0] := binds0 fun kV doc pm an cdv ct us hl => by
  cases us with
  | nil => cases hl
  | cons b0 t0 =>
    cases t0 with
    | nil => exact h kV doc pm an cdv ct b0
    | cons => cases hl
theorem bnd2 {K : PySem.W.Frag} {nm : Str} {st : Stmt} {x0 x1 : Str} (h : ∀ (kV doc pm : Value) (an : Option Addr) (cdv ct : Value) (a0 a1 : Value), bindArgs (PySem.W.fnOf nm nm (defArgs st) (defBody st) (defScope st) .none kV doc pm an cdv ct) ⟨[a0, a1], []⟩ = pure [(x0, a0), (x1, a1)]) : BindsAll K nm st .none [x0, x1] := binds0 fun kV doc pm an cdv ct us hl => by
  cases us with
  | nil => cases hl
  | cons b0 t0 =>
    cases t0 with
    | nil => cases hl
    | cons b1 t1 =>
      cases t1 with
      | nil => exact h kV doc pm an cdv ct b0 b1
      | cons => cases hl
theorem bnd3 {K : PySem.W.Frag} {nm : Str} {st : Stmt} {x0 x1 x2 : Str} (h : ∀ (kV doc pm : Value) (an : Option Addr) (cdv ct : Value) (a0 a1 a2 : Value), bindArgs (PySem.W.fnOf nm nm (defArgs st) (defBody st) (defScope st) .none kV doc pm an cdv ct) ⟨[a0, a1, a2], []⟩ = pure [(x0, a0), (x1, a1), (x2, a2)]) : BindsAll K nm st .none [x0, x1, x2] := binds0 fun kV doc pm an cdv ct us hl => by
  cases us with
  | nil => cases hl
  | cons b0 t0 =>
    cases t0 with
    | nil => cases hl
    | cons b1 t1 =>
      cases t1 with
      | nil => cases hl
      | cons b2 t2 =>
        cases t2 with
        | nil => exact h kV doc pm an cdv ct b0 b1 b2
        | cons => cases hl
theorem bnd4 {K : PySem.W.Frag} {nm : Str} {st : Stmt} {x0 x1 x2 x3 : Str} (h : ∀ (kV doc pm : Value) (an : Option Addr) (cdv ct : Value) (a0 a1 a2 a3 : Value), bindArgs (PySem.W.fnOf nm nm (defArgs st) (defBody st) (defScope st) .none kV doc pm an cdv ct) ⟨[a0, a1, a2, a3], []⟩ = pure [(x0, a0), (x1, a1), (x2, a2), (x3, a3)]) : BindsAll K nm st .none [x0, x1, x2, x3] := binds0 fun kV doc pm an cdv ct us hl => by
  cases us with
  | nil => cases hl
  | cons b0 t0 =>
    cases t0 with
    | nil => cases hl
    | cons b1 t1 =>
      cases t1 with
      | nil => cases hl
      | cons b2 t2 =>
        cases t2 with
        | nil => cases hl
        | cons b3 t3 =>
          cases t3 with
          | nil => exact h kV doc pm an cdv ct b0 b1 b2 b3
          | cons => cases hl
theorem bnd5 {K : PySem.W.Frag} {nm : Str} {st : Stmt} {x0 x1 x2 x3 x4 : Str} (h : ∀ (kV doc pm : Value) (an : Option Addr) (cdv ct : Value) (a0 a1 a2 a3 a4 : Value), bindArgs (PySem.W.fnOf nm nm (defArgs st) (defBody st) (defScope st) .none kV doc pm an cdv ct) ⟨[a0, a1, a2, a3, a4], []⟩ = pure [(x0, a0), (x1, a1), (x2, a2), (x3, a3), (x4, a4)]) : BindsAll K nm st .none [x0, x1, x2, x3, x4] := binds0 fun kV doc pm an cdv ct us hl => by
  cases us with
  | nil => cases hl
  | cons b0 t0 =>
    cases t0 with
    | nil => cases hl
    | cons b1 t1 =>
      cases t1 with
      | nil => cases hl
      | cons b2 t2 =>
        cases t2 with
        | nil => cases hl
        | cons b3 t3 =>
          cases t3 with
          | nil => cases hl
          | cons b4 t4 =>
            cases t4 with
            | nil => exact h kV doc pm an cdv ct b0 b1 b2 b3 b4
            | cons => cases hl
section
variable {P : Program} {w : World} {K : PySem.W.Frag} {mg : Str → Option Value} {base : Heap}
theorem FunAt.cal {x : Str} {st : Stmt} {dV : Value} {N ps : List Str} {k : Nat} {sp : Sp} (F : FunAt K x st dV) {h : Heap} (X : K.In h) (G : h.Ns mainGlobals mg) (S : FnScope N ps (defScope st)) (bi : BindsAll K x st dV ps) (len : ∀ vs H Q E, sp vs H Q E → vs.length = ps.length)
    (hbody : ∀ (f : Addr) (cdv : Value) (A : Around) (outer : List Env) (s : Shared) (H : Hp) (vs : List V) (Q : VK) (E : XK), Room k (A.deeper (envOfC x (defScope st) s.heap.objs.size f cdv)) → sp vs H Q E →
      ∃ t, PSs (cxOf CX0 P w K mg base N x (defScope st) f cdv A outer s H E).nox (defBody st) t ∧ t { nx := fun _ H' => Q .non H', rt := Q } (start N vs) H) : Cal P w K mg base (k + 1) x ps sp := by
  obtain ⟨f, oc, od, kV, doc, pm, an, cdv, ct, osl, lk, hcd, kp, ns⟩ := F.ex
  refine ⟨f, _, fn_of lk hcd S len fun A outer s H vs Q E hr hsp => ?_, bi kV doc pm an cdv ct, kp, PySem.W.mg_of X G ns⟩
  obtain ⟨t, h, q⟩ := hbody f cdv A outer s H vs Q E hr hsp
  exact ⟨t, h.nox, q⟩
end
theorem cxK {P : Program} {w : World} {K : PySem.W.Frag} {mg : Str → Option Value} {base : Heap} {N : List Str} {x : Str} {sc : Scope} {f : Addr} {cdv : Value} {A : Around} {outer : List Env} {s : Shared} {H : Hp} {E : XK} : (cxOf CX0 P w K mg base N x sc f cdv A outer s H E).nox.K = K := rfl
theorem same_new {H : Hp} {p : Addr} (h : H p = none) (o : HO) : Same H (upd H p o) := fun b u q => by rw [upd_ne (ne_of_none q h)]; exact q

/-! ### classes of values -/
theorem kit_ii (K : PySem.W.Frag) : PySem.W.kitOne K (.type "int") (.type "int") = some true := by unfold PySem.W.kitOne; rw [if_pos (by decide)]
theorem kit_bb (K : PySem.W.Frag) : PySem.W.kitOne K (.type "bool") (.type "bool") = some true := by unfold PySem.W.kitOne; rw [if_pos (by decide)]
theorem kit_ib (K : PySem.W.Frag) : PySem.W.kitOne K (.type "int") (.type "bool") = some false := by with_unfolding_all rfl

/-! ### tests over ints -/
theorem eqI {a b : Int} {A B : Prop} (h1 : a = b → A) (h2 : a ≠ b → B) : if decide (V.int a = V.int b) = true then A else B := by
  by_cases h : a = b
  · subst h
    rw [decide_eq_true rfl]
    exact iteT (h1 rfl)
  · rw [decide_eq_false fun e => h (V.int.inj e)]
    exact iteF (h2 h)
theorem neI {a b : Int} {A B : Prop} (h1 : a ≠ b → A) (h2 : a = b → B) : if (!decide (V.int a = V.int b)) = true then A else B := by
  by_cases h : a = b
  · subst h
    rw [decide_eq_true rfl]
    exact iteF (h2 rfl)
  · rw [decide_eq_false fun e => h (V.int.inj e)]
    exact iteT (h1 h)
theorem decI {p : Prop} [Decidable p] {A B : Prop} (h1 : p → A) (h2 : ¬ p → B) : if decide p = true then A else B := by
  by_cases h : p
  · rw [decide_eq_true h]; exact iteT (h1 h)
  · rw [decide_eq_false h]; exact iteF (h2 h)
theorem blI {c : Bool} {A B : Prop} (h1 : c = true → A) (h2 : c = false → B) : if c = true then A else B := by
  cases c
  · exact iteF (h2 rfl)
  · exact iteT (h1 rfl)
theorem nblI {c : Bool} {A B : Prop} (h1 : c = false → A) (h2 : c = true → B) : if (!c) = true then A else B := by
  cases c
  · exact iteT (h1 rfl)
  · exact iteF (h2 rfl)
/-! ### a statement with its own aim: what follows is shown once -/
def tCut (t u : TS) : TS := fun D σ H => ∃ Good : St → Hp → Prop, t { D with nx := Good } σ H ∧ ∀ σ' H', Good σ' H' → u D σ' H'
theorem pss_cut {X : Cx} {st : Stmt} {rest : List Stmt} {t u : TS} (h1 : PS X st t) (h2 : PSs X rest u) : PSs X (st :: rest) (tCut t u) := by
  intro pins s σ H D I h
  obtain ⟨Good, ht, hu⟩ := h
  refine wpAny_execs_cons (thn (h1 pins s σ H { D with nx := Good } I ht) fun f s1 q => ?_)
  cases f with
  | next =>
    obtain ⟨σ', H', I', q⟩ := q
    exact h2 pins s1 σ' H' D I' (hu σ' H' q)
  | ret v => exact q
  | brk => exact q
  | cont => exact q
theorem same_upd {H H' : Hp} {p : Addr} {o : HO} (h : Same H H') (hn : H p = none) : Same H (upd H' p o) := fun b u q => by rw [upd_ne (ne_of_none q hn)]; exact h b u q
end L2

set_option maxHeartbeats 4000000
/-! zip of two lists or tuples: its draws are told by what they do, not by what they are -/
namespace Zo
open PySem PySem.Spec PyProof.Rows
open Sem (wp)
def Stop (h : Heap) (e : Addr) : Prop := ∃ o, h.get? e = some o ∧ o.cls = .type "StopIteration"
def Rest (S : List Addr) (h h' : Heap) : Prop := ∀ c o, c ∉ S → h.get? c = some o → h'.get? c = some o
theorem Rest.trans {S : List Addr} {h h1 h2 : Heap} (a : Rest S h h1) (b : Rest S h1 h2) : Rest S h h2 := fun c o n e => b c o n (a c o n e)
theorem Rest.sub {S T : List Addr} {h h1 : Heap} (a : Rest S h h1) (q : ∀ c, c ∈ S → c ∈ T) : Rest T h h1 := fun c o n e => a c o (fun z => n (q c z)) e
theorem Rest.ext {S : List Addr} {h h1 : Heap} {b : Addr} (e : Heap.ExtBut b h h1) (q : b ∈ S) : Rest S h h1 := fun c o n x => e c o (fun z => n (z ▸ q)) x
theorem Rest.but {S : List Addr} {h h1 : Heap} {b : Addr} (e : Heap.SameBut b h h1) (q : b ∈ S) : Rest S h h1 := Rest.ext e.extBut q
theorem Rest.new {S : List Addr} {h : Heap} (o : Obj) : Rest S h (h.push o) := fun c u n x => Heap.get?_push_of_some _ x
def Stays (S : List Addr) (G : Heap → Prop) : Prop := ∀ h h', Rest S h h' → G h → G h'
def Told (it : Addr) (hp : Heap) (g : Array GenState) (d : Drawn) (tk : Nat) (os : OsState) (G : Heap → Prop) (ox : Option Value) (Q E : Value → Shared → Prop) : Prop :=
  (∀ x h', ox = some x → G h' → Heap.SameBut it hp h' → Q x ⟨h', g, d, tk, os⟩) ∧
  (∀ e h', ox = none → Heap.ExtBut it hp h' → Stop h' e → E (.ref e) ⟨h', g, d, tk, os⟩)
def Pull (prog : Program) (w : World) (A : Around) (it : Addr) (G G' : Heap → Prop) (ox : Option Value) : Prop :=
  ∀ {Q E : Value → Shared → Prop} {hp : Heap} {g : Array GenState} {d : Drawn} {tk : Nat} {os : OsState}, G hp → Told it hp g d tk os G' ox Q E →
    wpAny (model prog w) A (Builtin.SmallTypes.nextOf (.ref it)) Q E ⟨hp, g, d, tk, os⟩
section
variable {prog : Program} {w : World} {A : Around} {E : Value → Shared → Prop} {hp : Heap} {g : Array GenState} {d : Drawn} {tk : Nat} {os : OsState}
theorem Pull.behind {it : Addr} {G G' : Heap → Prop} {ox : Option Value} (p : Pull prog w A it G G' ox) (hg : G hp) {α : Type} {f : Value → Sem α} {k : Value → Sem Unit} {Q : α → Shared → Prop}
    (t : Told it hp g d tk os G' ox (fun x s' => wpAny (model prog w) A (f x) Q (fun e s2 => wpAny (model prog w) A (k e) (fun _ s3 => E e s3) E s2) s') (fun e s2 => wpAny (model prog w) A (k e) (fun _ s3 => E e s3) E s2)) :
    wpAny (model prog w) A ((Builtin.SmallTypes.nextOf (.ref it) >>= f).onRaise k) Q E ⟨hp, g, d, tk, os⟩ := wpAny_onRaise (wpAny_bind (p hg t))
theorem freed {z I O e : Addr} {v : Value} {h : Heap} (gz : IsZip h z I O v) (st : Stop h e) (k : ∀ h', Rest [z] h h' → Stop h' e → E (.ref e) ⟨h', g, d, tk, os⟩) :
    wpAny (model prog w) A (setField (.ref z) 0 .none) (fun _ s3 => E (.ref e) s3) E ⟨h, g, d, tk, os⟩ := by
  obtain ⟨o, ho, hc⟩ := st
  have ne : e ≠ z := by
    rintro rfl
    have q := ho.symm.trans gz
    cases q
    exact absurd (Value.type.inj hc) (by decide)
  refine wpAny_setField gz rfl (by simp) (k _ (Rest.but (Heap.SameBut.update ..) (by simp)) ⟨o, (Heap.SameBut.update ..).extBut _ _ ne ho, hc⟩)
theorem step {z I O i j : Addr} {ox oy : Option Value} {a b : Value} {G1 G1' G2 G2' : Heap → Prop} {R : PySem.Fin → Shared → Prop}
    (gz : IsZip hp z I O .none) (gI : IsPair hp I (.ref i) (.ref j)) (gO : IsPair hp O a b) (ne : O ≠ z ∧ O ≠ i ∧ O ≠ j ∧ i ≠ z ∧ j ≠ z)
    (p1 : Pull prog w A i G1 G1' ox) (p2 : Pull prog w A j G2 G2' oy) (a1 : G1 hp) (a2 : G2 hp)
    (k1 : Stays [z, O, j] G1) (k2 : Stays [z, O, i] G2) (k3 : Stays [z, O, j] G1') (k4 : Stays [z, O, i] G2')
    (go : ∀ x y h', ox = some x → oy = some y → IsZip h' z I O (rawInt hp.objs.size) → IsPair h' O x y → IsPair h' hp.objs.size x y → G1' h' → G2' h' → Rest [z, O, i, j] hp h' → R (.done (.ret (.ref hp.objs.size))) ⟨h', g, d, tk, os⟩)
    (stop : ∀ e h', ox = none ∨ oy = none → Rest [z, O, i, j] hp h' → Stop h' e → E (.ref e) ⟨h', g, d, tk, os⟩) :
    wpAny (model prog w) A (Builtin.«zip.__next__» ⟨[.ref z], []⟩) R E ⟨hp, g, d, tk, os⟩ := by
  obtain ⟨n1, n2, n3, n4, n5⟩ := ne
  have c0 : (#[Value.none, .bool false, .bool false, .ref I, .ref O] : Array Value)[0]? = some .none := rfl
  have c2 : (#[Value.none, .bool false, .bool false, .ref I, .ref O] : Array Value)[2]? = some (.bool false) := rfl
  have c3 : (#[Value.none, .bool false, .bool false, .ref I, .ref O] : Array Value)[3]? = some (.ref I) := rfl
  have c4 : (#[Value.none, .bool false, .bool false, .ref I, .ref O] : Array Value)[4]? = some (.ref O) := rfl
  have z0 : 0 < (#[Value.none, .bool false, .bool false, .ref I, .ref O] : Array Value).size := by simp
  wp_walk using wpAny_field gz rfl c2, wpAny_field gz rfl c3, wpAny_seqItems gI rfl, wpAny_field gz rfl c0, wpAny_field gz rfl c4, wpAny_setField_rec gz z0
  intro h1 z1 r1
  have q1 : Rest [z] hp h1 := .but r1 (by simp)
  wp_walk
  refine p1.behind (f := fun x => pure (some x)) (k := fun _ => setField (.ref z) 0 .none) (k1 _ _ (q1.sub (by simp)) a1) ⟨fun x h2 e2 b2 r2 => ?_, fun e h2 e2 r2 st => ?_⟩
  · have O2 : IsPair h2 O a b := r2.extBut _ _ n2 (r1.extBut _ _ n1 gO)
    wp_walk using wpAny_seqItems O2 rfl, wpAny_updateSeq_pair O2
    intro h3 O3 r3
    wp_walk using wpAny_letGo
    have q3 : Rest [z, O, i] hp h3 := ((q1.sub (by simp)).trans (.but r2 (by simp))).trans (.but r3 (by simp))
    refine p2.behind (f := fun x => pure (some x)) (k := fun _ => setField (.ref z) 0 .none) (k2 _ _ q3 a2) ⟨fun y h4 e4 b4 r4 => ?_, fun e h4 e4 r4 st => ?_⟩
    · have O4 : IsPair h4 O x b := r4.extBut _ _ n3 O3
      wp_walk using wpAny_seqItems O4 rfl, wpAny_updateSeq_pair O4
      intro h5 O5 r5
      have O5' : IsPair h5 O x y := O5
      have q5 : Rest [z, O, i, j] hp h5 := ((q3.sub (by simp)).trans (.but r4 (by simp))).trans (.but r5 (by simp))
      have z5 : IsZip h5 z I O .ellipsis := r5.extBut _ _ n1.symm (r4.extBut _ _ n5.symm (r3.extBut _ _ n1.symm (r2.extBut _ _ n4.symm z1)))
      have sz : h5.objs.size = hp.objs.size := (((r5.1.trans r4.1).trans r3.1).trans r2.1).trans r1.1
      have lt : z < h5.objs.size := Heap.lt_size z5
      have z6 : IsZip (h5.push { cls := .type "tuple", data := .seq #[x, y].toList.toArray }) z I O .ellipsis := Heap.get?_push_of_some _ z5
      wp_walk using wpAny_letGo, wpAny_seqItems O5' rfl
      have z8 := Heap.get?_update_self (Obj.mapFields fun v => v.setIfInBounds 1 (Value.bool false)) (Heap.get?_update_self (Obj.mapFields fun v => v.setIfInBounds 0 (rawInt h5.objs.size)) z6 rfl) rfl
      have r8 : Rest [z] (h5.push { cls := .type "tuple", data := .seq #[x, y].toList.toArray }) _ := (Rest.but (b := z) (Heap.SameBut.update (f := Obj.mapFields fun v => v.setIfInBounds 0 (rawInt h5.objs.size)) ..) (by simp)).trans (Rest.but (b := z) (Heap.SameBut.update (f := Obj.mapFields fun v => v.setIfInBounds 1 (Value.bool false)) ..) (by simp))
      have q8 := (Rest.new _).trans r8
      have T8 := r8 h5.objs.size _ (by simp; exact Nat.ne_of_gt lt) (Heap.get?_push_size _ rfl)
      simp only [← sz] at go
      exact go x y _ e2 e4 z8 (q8 _ _ (by simp [n1]) O5') T8 (k3 _ _ ((((Rest.but (S := [z, O, j]) r3 (by simp)).trans (.but r4 (by simp))).trans (.but r5 (by simp))).trans (q8.sub (T := [z, O, j]) (by simp))) b2)
        (k4 _ _ ((Rest.but (S := [z, O, i]) r5 (by simp)).trans (q8.sub (T := [z, O, i]) (by simp))) b4) (q5.trans (q8.sub (T := [z, O, i, j]) (by simp)))
    · exact freed (r4 _ _ n5.symm (r3.extBut _ _ n1.symm (r2.extBut _ _ n4.symm z1))) st fun h5 r5 st' =>
        stop e h5 (.inr e4) (((q3.sub (by simp)).trans (.ext r4 (by simp))).trans (r5.sub (by simp))) st'
  · exact freed (r2 _ _ n4.symm z1) st fun h3 r3 st' => stop e h3 (.inl e2) (((q1.sub (by simp)).trans (.ext r2 (by simp))).trans (r3.sub (by simp))) st'
end
end Zo

set_option maxHeartbeats 4000000
namespace Zn
open PySem PySem.Spec PyProof.Rows
open Sem (wp)
section
variable {prog : Program} {w : World} {A : Around} {E : Value → Shared → Prop} {hp : Heap} {g : Array GenState} {d : Drawn} {tk : Nat} {os : OsState} {it l : Addr} {i n : Nat} {its : Array Value} {oi ol : Obj} {R : PySem.Fin → Shared → Prop}
theorem tup_step (hh : its[i]? = none → A.handled = none) (gi : hp.get? it = some oi) (di : oi.data = .fields #[.ref l, .int i 0]) (gl : hp.get? l = some ol) (dl : ol.data = .seq its n)
    (go : ∀ x, its[i]? = some x → R (.done (.ret x)) ⟨hp.update it (Obj.mapFields (·.setIfInBounds 1 (rawInt (i + 1)))), g, d, tk, os⟩)
    (stop : ∀ h' e, its[i]? = none → Heap.ExtBut it hp h' → (∃ o, h'.get? e = some o ∧ o.cls = .type "StopIteration") → E (.ref e) ⟨h', g, d, tk, os⟩) :
    wpAny (model prog w) A (Builtin.«tuple_iterator.__next__» ⟨[.ref it], []⟩) R E ⟨hp, g, d, tk, os⟩ := by
  have f0 : (#[Value.ref l, .int i 0] : Array Value)[0]? = some (.ref l) := rfl
  have f1 : (#[Value.ref l, .int i 0] : Array Value)[1]? = some (.int i 0) := rfl
  have z0 : 0 < (#[Value.ref l, .int i 0] : Array Value).size := by simp
  have z1 : 1 < (#[Value.ref l, .int i 0] : Array Value).size := by simp
  wp_walk using wpAny_field gi di f0, wpAny_field gi di f1, wpAny_seqItems gl dl
  rw [Int.toNat_natCast]
  cases hx : its[i]? with
  | some x =>
    dsimp only
    wp_walk using wpAny_setField gi di z1
    exact go x hx
  | none =>
    dsimp only
    have h0 := hh hx
    wp_walk using wpAny_setField gi di z0
    exact wpAny_raiseNew_none h0 (stop _ _ hx (((Heap.SameBut.update ..).extBut.push _).push _) ⟨_, Heap.get?_push_size _ rfl, rfl⟩)
end
end Zn

set_option maxHeartbeats 4000000
/-! zip of two lists or tuples, made and walked -/
namespace Zp
open PySem PySem.Spec PyProof.Rows Zo
open Sem (wp)
def Dat (t : Bool) (h : Heap) (l : Addr) (xs : Array Value) : Prop := if t then h.IsTuple l xs else h.IsList l xs
def Itr (t : Bool) (h : Heap) (it l : Addr) (i : Nat) : Prop := if t then h.IsTupleIter it l i else h.IsListIter it l i
theorem Dat.at {t : Bool} {h h' : Heap} {l : Addr} {xs : Array Value} (d : Dat t h l xs) (e : ∀ o, h.get? l = some o → h'.get? l = some o) : Dat t h' l xs := by
  cases t <;> exact let ⟨o, q, r⟩ := d; ⟨o, e o q, r⟩
theorem Itr.at {t : Bool} {h h' : Heap} {it l : Addr} {i : Nat} (d : Itr t h it l i) (e : ∀ o, h.get? it = some o → h'.get? it = some o) : Itr t h' it l i := by
  cases t <;> exact let ⟨o, q, r⟩ := d; ⟨o, e o q, r⟩
theorem Itr.obj {t : Bool} {h : Heap} {it l : Addr} {i : Nat} (d : Itr t h it l i) : ∃ o, h.get? it = some o ∧ ∀ v, o.data ≠ .cell v := by
  cases t <;> exact let ⟨o, e, _, q⟩ := d; ⟨o, e, fun v z => by rw [q] at z; cases z⟩
theorem Dat.push {t : Bool} {h : Heap} {l : Addr} {xs : Array Value} (d : Dat t h l xs) (o : Obj) : Dat t (h.push o) l xs := d.at fun _ q => Heap.get?_push_of_some _ q
def Stand (t : Bool) (it l : Addr) (k : Nat) (xs : Array Value) (h : Heap) : Prop := Itr t h it l k ∧ Dat t h l xs
theorem Stand.stays {t : Bool} {it l : Addr} {k : Nat} {xs : Array Value} {S : List Addr} (a : it ∉ S) (b : l ∉ S) : Stays S (Stand t it l k xs) := fun h h' r d => ⟨d.1.at fun o q => r _ o a q, d.2.at fun o q => r _ o b q⟩
section
variable {prog : Program} {w : World} {A : Around}
theorem via {E : Value → Shared → Prop} {T id : String} {f : Builtin} {a : Addr} {s : Shared} {Q : Option Value → Shared → Prop} (sl : Slot T (Str.ofString "__next__") id) (en : entryFor table id = some f) (ar : argsOk id ⟨[.ref a], []⟩) (ty : s.TypeIs (.ref a) T)
    (h : wpAny (model prog w) A.in1 (f ⟨[.ref a], []⟩) (fun r s' => ∃ v, r = .done (.ret v) ∧ Q (some v) s') E s) : wpAny (model prog w) A (callSpecial? (.ref a) (Str.ofString "__next__")) Q E s :=
  wpAny_callSpecial?_slot ty sl (wpAny_call_entry sl ty en h ar)
theorem pull {t : Bool} {it l : Addr} {k : Nat} {xs : Array Value} (hh : A.handled = none) : Pull prog w A it (Stand t it l k xs) (Stand t it l (k + 1) xs) xs[k]? := by
  intro Q E hp g d tk os st td
  have nl : ∀ {h'}, Heap.SameBut it hp h' → l ≠ it → Dat t h' l xs := fun r n => st.2.at fun o q => r.extBut _ _ n q
  cases t with
  | false =>
    obtain ⟨a, b⟩ : hp.IsListIter it l k ∧ hp.IsList l xs := st
    have n : l ≠ it := by
      rintro rfl
      obtain ⟨o, q, _, r⟩ := a
      obtain ⟨o', q', _, _, r'⟩ := b
      rw [q] at q'; cases q'; rw [r] at r'; cases r'
    cases hx : xs[k]? with
    | some x => exact wpAny_nextOf_list_item a b hx fun h' i r => td.1 x h' hx ⟨i, nl r n⟩ r
    | none => exact wpAny_nextOf_list_end hh a b hx fun h' e r s => td.2 e h' hx r s
  | true =>
    obtain ⟨a, b⟩ : hp.IsTupleIter it l k ∧ hp.IsTuple l xs := st
    have ty : (⟨hp, g, d, tk, os⟩ : Shared).TypeIs (.ref it) "tuple_iterator" := a.typeIs
    obtain ⟨o, q, c, r⟩ := a
    obtain ⟨o', q', c', m, r'⟩ := b
    have n : l ≠ it := by rintro rfl; rw [q] at q'; cases q'; rw [r] at r'; cases r'
    unfold Builtin.SmallTypes.nextOf
    refine wpAny_bind (via F.slot_tuple_iterator_next F.entry_tuple_iterator_next (F.args_tuple_iterator_next_1 _) ty (Zn.tup_step (fun _ => hh) q r q' r' (fun x hx => ⟨x, rfl, wpAny_pure (td.1 x _ hx ?_ (Heap.SameBut.update ..))⟩) fun h' e hx ex s => td.2 e h' hx ex s))
    refine ⟨(⟨_, Heap.get?_update_self _ q (Obj.isFreed_of_fields (Obj.data_mapFields r _)), (Obj.cls_mapFields ..).trans c, ?_⟩ : Heap.IsTupleIter _ it l (k + 1)), nl (Heap.SameBut.update ..) n⟩
    rw [Obj.data_mapFields r]
    rfl
variable {E : Value → Shared → Prop}
theorem next_zip {t1 t2 : Bool} {z I O i j l m : Addr} {k1 k2 : Nat} {xs ys : Array Value} {a b : Value} {Q : Option Value → Shared → Prop} {s : Shared} (hh : A.handled = none) (D : ZipApart z I O i j l m)
    (gz : IsZip s.heap z I O .none) (gI : IsPair s.heap I (.ref i) (.ref j)) (gO : IsPair s.heap O a b) (d1 : Stand t1 i l k1 xs s.heap) (d2 : Stand t2 j m k2 ys s.heap)
    (go : ∀ x y h', xs[k1]? = some x → ys[k2]? = some y → IsZip h' z I O (rawInt s.heap.objs.size) → IsPair h' O x y → IsPair h' s.heap.objs.size x y → Stand t1 i l (k1 + 1) xs h' → Stand t2 j m (k2 + 1) ys h' →
      Rest [z, O, i, j] s.heap h' → Q (some (.ref s.heap.objs.size)) ⟨h', s.gens, s.drawn, s.toks, s.os⟩)
    (stop : ∀ h', xs[k1]? = none ∨ ys[k2]? = none → Rest [z, O, i, j] s.heap h' → Q none ⟨h', s.gens, s.drawn, s.toks, s.os⟩) : wpAny (model prog w) A (pyNext (.ref z)) Q E s := by
  obtain ⟨hp, g, d, tk, os⟩ := s
  unfold pyNext
  refine wpAny_bind (wpAny_attempt (via F.slot_zip_next F.entry_zip_next (F.args_zip_next_1 _) ⟨_, gz, rfl⟩ (step gz gI gO ⟨D.TOz, D.TOi1, D.TOi2, D.i1z, D.i2z⟩ (pull (A := A.in1) hh) (pull (A := A.in1) hh) d1 d2 ?_ ?_ ?_ ?_ ?_ ?_)))
  · exact Stand.stays (by simp [D.i1z, D.TOi1.symm, D.i12]) (by simp [D.l1z, D.l1TO, D.l1i2])
  · exact Stand.stays (by simp [D.i2z, D.TOi2.symm, D.i12.symm]) (by simp [D.l2z, D.l2TO, D.l2i1])
  · exact Stand.stays (by simp [D.i1z, D.TOi1.symm, D.i12]) (by simp [D.l1z, D.l1TO, D.l1i2])
  · exact Stand.stays (by simp [D.i2z, D.TOi2.symm, D.i12.symm]) (by simp [D.l2z, D.l2TO, D.l2i1])
  · exact fun x y h' e1 e2 b1 b2 b3 b4 b5 b6 => ⟨_, rfl, wpAny_pure (go x y h' e1 e2 b1 b2 b3 b4 b5 b6)⟩
  · rintro e h' n r ⟨o, q, c⟩
    exact wpAny_bind (wpAny_isInstance (b := true) ⟨o, q, c⟩ isSubtype_stop (wpAny_pure (stop h' n r)))
end
/-! zip(..) made -/
abbrev itObj (t : Bool) (l : Addr) : Obj := { cls := .type (if t then "tuple_iterator" else "list_iterator"), data := .fields #[.ref l, .int 0 0] }
theorem itr_new {t : Bool} {h : Heap} {it l : Addr} (e : h.get? it = some (itObj t l)) : Itr t h it l 0 := by
  cases t <;> exact ⟨_, e, rfl, rfl⟩
theorem push5 {h : Heap} {o0 o1 o2 o3 o4 : Obj} (f0 : o0.isFreed = false) (f1 : o1.isFreed = false) (f2 : o2.isFreed = false) (f3 : o3.isFreed = false) (f4 : o4.isFreed = false) {H : Heap} (e : H = ((((h.push o0).push o1).push o2).push o3).push o4) :
    H.get? h.objs.size = some o0 ∧ H.get? (h.objs.size + 1) = some o1 ∧ H.get? (h.objs.size + 2) = some o2 ∧ H.get? (h.objs.size + 3) = some o3 ∧ H.get? (h.objs.size + 4) = some o4 ∧ ∀ c o, h.get? c = some o → H.get? c = some o := by
  subst e
  have w : ∀ {h : Heap} {a : Addr} {o o' : Obj}, h.get? a = some o → (h.push o').get? a = some o := fun q => Heap.get?_push_of_some _ q
  have s1 : (h.push o0).objs.size = h.objs.size + 1 := Heap.size_push ..
  have s2 : ((h.push o0).push o1).objs.size = h.objs.size + 2 := by rw [Heap.size_push, s1]
  have s3 : (((h.push o0).push o1).push o2).objs.size = h.objs.size + 3 := by rw [Heap.size_push, s2]
  have s4 : ((((h.push o0).push o1).push o2).push o3).objs.size = h.objs.size + 4 := by rw [Heap.size_push, s3]
  refine ⟨w (w (w (w (Heap.get?_push_size _ f0)))), ?_, ?_, ?_, ?_, fun c o q => w (w (w (w (w q))))⟩
  · rw [← s1]; exact w (w (w (Heap.get?_push_size _ f1)))
  · rw [← s2]; exact w (w (Heap.get?_push_size _ f2))
  · rw [← s3]; exact w (Heap.get?_push_size _ f3)
  · rw [← s4]; exact Heap.get?_push_size _ f4
structure New (t1 t2 : Bool) (h h' : Heap) (l m : Addr) : Prop where
  z : IsZip h' (h.objs.size + 4) (h.objs.size + 2) (h.objs.size + 3) .none
  I : IsPair h' (h.objs.size + 2) (.ref h.objs.size) (.ref (h.objs.size + 1))
  O : IsPair h' (h.objs.size + 3) .none .none
  i : Itr t1 h' h.objs.size l 0
  j : Itr t2 h' (h.objs.size + 1) m 0
  k : Rest [] h h'
section
variable {prog : Program} {w : World} {A : Around} {E : Value → Shared → Prop} {s : Shared}
theorem iter_dat {t : Bool} {l : Addr} {xs : Array Value} {Q : Value → Shared → Prop} (hl : Dat t s.heap l xs) (h : Q (.ref s.heap.objs.size) { s with heap := s.heap.push (itObj t l) }) : wpAny (model prog w) A (pyIter (.ref l)) Q E s := by
  cases t
  · exact wpAny_pyIter_list (show s.heap.IsList l xs from hl) h
  · exact wpAny_pyIter_tuple (show s.heap.IsTuple l xs from hl) h
theorem meets_zip (t1 t2 : Bool) (l m : Addr) (xs ys : Array Value) :
    Meets (Builtin.«zip.__new__» ⟨[.type "zip", .ref l, .ref m], []⟩) (fun _ R s => Dat t1 s.heap l xs ∧ Dat t2 s.heap m ys ∧
      ∀ h', New t1 t2 s.heap h' l m → R (.ok (.ret (.ref (s.heap.objs.size + 4)))) { s with heap := h' }) :=
  .of_wp fun prog w A R s h => by
    rcases s with ⟨hp, g, d, tk, os⟩
    rcases h with ⟨b1, b2, h⟩
    have hsub := sub_zip
    have L1 : Dat t1 (Shared.heap ⟨hp, g, d, tk, os⟩) l xs := b1
    have L2 : Dat t2 (Shared.heap ⟨hp.push (itObj t1 l), g, d, tk, os⟩) m ys := b2.push _
    wp_walk using iter_dat L1, iter_dat L2
    have key : ∀ n1 n2 n3 n4, n1 = hp.objs.size + 1 → n2 = hp.objs.size + 2 → n3 = hp.objs.size + 3 → n4 = hp.objs.size + 4 →
        R (.ok (.ret (.ref n4))) ⟨((((hp.push (itObj t1 l)).push (itObj t2 m)).push { cls := .type "tuple", data := .seq #[.ref hp.objs.size, .ref n1] }).push { cls := .type "tuple", data := .seq #[.none, .none] }).push
          { cls := .type "zip", data := .fields #[.none, .bool false, .bool false, .ref n2, .ref n3] }, g, d, tk, os⟩ := by
      rintro _ _ _ _ rfl rfl rfl rfl
      obtain ⟨a0, a1, a2, a3, a4, a5⟩ := push5 (h := hp) (o0 := itObj t1 l) (o1 := itObj t2 m) (o2 := { cls := .type "tuple", data := .seq #[.ref hp.objs.size, .ref (hp.objs.size + 1)] }) (o3 := { cls := .type "tuple", data := .seq #[.none, .none] })
        (o4 := { cls := .type "zip", data := .fields #[.none, .bool false, .bool false, .ref (hp.objs.size + 2), .ref (hp.objs.size + 3)] }) rfl rfl rfl rfl rfl rfl
      exact h _ ⟨a4, a2, a3, itr_new a0, itr_new a1, fun c o _ q => a5 c o q⟩
    exact ⟨_, rfl, key _ _ _ _ (by simp only [Heap.size_push]) (by simp only [Heap.size_push]) (by simp only [Heap.size_push]) (by simp only [Heap.size_push])⟩
theorem call_zip {t1 t2 : Bool} {l m : Addr} {xs ys : Array Value} {Q : Value → Shared → Prop} (b1 : Dat t1 s.heap l xs) (b2 : Dat t2 s.heap m ys)
    (k : ∀ h', New t1 t2 s.heap h' l m → Q (.ref (s.heap.objs.size + 4)) { s with heap := h' }) : wpAny (model prog w) A (call (.type "zip") [.ref l, .ref m]) Q E s :=
  callType_new F.called_zip (by decide) (F.typeCall_zip_2 _ _) (F.newCall_zip_2 _ _) (fun o => F.args_object_init_3 o _ _) F.entry_zip_new (meets_zip t1 t2 l m xs ys) ⟨b1, b2, fun h' n => ⟨⟨_, n.z, rfl⟩, k h' n⟩⟩
end
end Zp

set_option maxHeartbeats 4000000
namespace L2
open PySem PySem.Spec PyProof.Rows
section
variable {X : Cx} {pins : List (Addr × Obj)} {σ : St} {H : Hp} {s : Shared} {h' : Heap}
theorem Inv.turnedL {t' : Nat} {ch : List Addr} (I : Inv X pins σ H s) (k : ∀ b o, b ∉ ch → s.heap.get? b = some o → h'.get? b = some o) (hf : ∀ b ∈ ch, FpOk X pins H b) : Inv X pins σ H { s with heap := h', toks := t' } := by
  have nit : ∀ b u, H b = some u → b ∉ ch := fun b u e z => by rw [(hf b z).1] at e; cases e
  refine I.step (g' := s.gens) (d' := s.drawn) (ch := ch) (fun b hb => ⟨(hf b hb).2.2.2.1, (hf b hb).2.1, (hf b hb).2.2.2.2.1, (hf b hb).2.2.2.2.2⟩) (fun b o _ _ hc e _ => k b o hc e) (fun b o _ _ hc e _ => ⟨o.slots, k b o hc e⟩) (fun _ _ _ _ n => n)
    (fun b o hc e => ⟨o, k b o hc e⟩) (fun _ _ e => e) (fun _ _ _ e => e) (fun b ps e => ⟨#[], by rw [e]; simp⟩) (fun m hm => ?_) (fun b u e => ?_) I.bare
  · obtain ⟨o, es, ep, ho, r⟩ := hm
    exact ⟨o, es, ep, k _ o (fun z => (hf _ z).2.1 rfl) ho, r⟩
  · refine (I.hok b u e).stay (fun c v hc q => k c v ?_ q) (fun _ q => q) fun _ _ q => q
    rcases hc with z | z
    · rw [z]; exact nit b u e
    · exact nit c _ z
theorem Inv.turnedT {t' : Nat} {ch : List Addr} {T : Addr} {xs : List V} {its : List Value} (I : Inv X pins σ H s) (k : ∀ b o, b ∉ ch → s.heap.get? b = some o → h'.get? b = some o) (hf : ∀ b ∈ ch, FpOk X pins H b) (hT : s.heap.objs.size ≤ T) (hv : Vals xs its) (hz : xs.length ≤ sizeLine) (ht : IsTup h' T its.toArray) :
    Inv X pins σ (upd H T (.tup xs)) { s with heap := h', toks := t' } := by
  have nit : ∀ b u, H b = some u → b ∉ ch := fun b u e z => by rw [(hf b z).1] at e; cases e
  have hTn : H T = none := I.hok.fresh hT
  have neT : ∀ b o, s.heap.get? b = some o → b ≠ T := fun b o e => Nat.ne_of_lt (Nat.lt_of_lt_of_le (Heap.lt_size e) hT)
  have neH : ∀ b u, H b = some u → b ≠ T := fun b u e z => by rw [z, hTn] at e; cases e
  refine I.step (g' := s.gens) (d' := s.drawn) (ch := ch) (fun b hb => ⟨(hf b hb).2.2.2.1, (hf b hb).2.1, (hf b hb).2.2.2.2.1, (hf b hb).2.2.2.2.2⟩) (fun b o _ _ hc e _ => k b o hc e) (fun b o _ _ hc e _ => ⟨o.slots, k b o hc e⟩)
    (fun b o _ e n => by rw [upd_ne (neT b o e)]; exact n)
    (fun b o hc e => ⟨o, k b o hc e⟩) (fun b ys e => by rw [upd_ne (neH b _ e)]; exact e) (fun b o u e => by rw [upd_ne (neH b _ e)]; exact e) (fun b ps e => ⟨#[], by rw [upd_ne (neH b _ e), e]; simp⟩) (fun m hm => ?_) (fun b u e => ?_) I.bare
  · obtain ⟨o, es, ep, ho, r⟩ := hm
    exact ⟨o, es, ep, k _ o (fun z => (hf _ z).2.1 rfl) ho, r⟩
  · by_cases hb : b = T
    · subst hb
      rw [upd_same] at e
      cases e
      exact ⟨hz, its, hv, ht⟩
    · rw [upd_ne hb] at e
      refine (I.hok b u e).stay (fun c v hc q => k c v ?_ q) (fun c q => by rw [upd_ne (neH c _ q)]; exact q) fun c ys q => by rw [upd_ne (neH c _ q)]; exact q
      rcases hc with z | z
      · rw [z]; exact nit b u e
      · exact nit c _ z
end
def SqX (t : Bool) (K : PySem.W.Frag) (H : Hp) (a : Addr) (xs : List V) : Prop := if t then SqT K H a xs else SqL K H a xs
theorem Inv.sqx {X : Cx} {pins : List (Addr × Obj)} {σ : St} {H : Hp} {s : Shared} {t : Bool} {a : Addr} {xs : List V} (I : Inv X pins σ H s) (h : SqX t X.K H a xs) : ∃ its : List Value, Vals xs its ∧ Zp.Dat t s.heap a its.toArray ∧ xs.length ≤ sizeLine := by
  cases t
  · obtain ⟨its, v, p, z⟩ := I.list (show SqL X.K H a xs from h)
    exact ⟨its, v, p.isList, z⟩
  · obtain ⟨its, v, p, z⟩ := I.tuple (show SqT X.K H a xs from h)
    exact ⟨its, v, p, z⟩
theorem Inv.sqx_inj {X : Cx} {pins : List (Addr × Obj)} {σ : St} {H : Hp} {s : Shared} {t : Bool} {a : Addr} {xs ys : List V} (I : Inv X pins σ H s) (h : SqX t X.K H a xs) (h' : SqX t X.K H a ys) : xs = ys := by
  cases t
  · exact I.list_inj (show SqL X.K H a xs from h) h'
  · exact I.tuple_inj (show SqT X.K H a xs from h) h'
def Itz (t1 t2 : Bool) (K : PySem.W.Frag) (l1 l2 : Addr) : It :=
  ⟨fun i H => ∃ xs x ys y, SqX t1 K H l1 xs ∧ xs[i]? = some x ∧ SqX t2 K H l2 ys ∧ ys[i]? = some y,
   fun i H v H' => ∃ T x y, v = .ref T ∧ H T = none ∧ H' = upd H T (.tup [x, y]) ∧ (∀ xs, SqX t1 K H l1 xs → xs[i]? = some x) ∧ ∀ ys, SqX t2 K H l2 ys → ys[i]? = some y,
   fun i H => ∃ xs ys, SqX t1 K H l1 xs ∧ SqX t2 K H l2 ys ∧ (xs.length ≤ i ∨ ys.length ≤ i)⟩
theorem turn_zip {P : Program} {w : World} {K : PySem.W.Frag} {es : List Expr} {kk : Nat} {tp : Pos} {t1 t2 : Bool} {z TI TO i1 i2 l1 l2 : Addr} (D : ZipApart z TI TO i1 i2 l1 l2) :
    Turn P w K (.Tuple es kk tp) (Itz t1 t2 K l1 l2) [z, TI, TO, i1, i2] z (fun i h => IsZip h z TI TO .none ∧ IsPair h TI (.ref i1) (.ref i2) ∧ (∃ a b, IsPair h TO a b) ∧ Zp.Itr t1 h i1 l1 i ∧ Zp.Itr t2 h i2 l2 i) where
  mem := by simp
  obj := fun i h st b hb => by
    obtain ⟨a1, a2, ⟨x, y, a3⟩, a4, a5⟩ := st
    simp only [List.mem_cons, List.not_mem_nil, or_false] at hb
    rcases hb with rfl | rfl | rfl | rfl | rfl
    · exact ⟨_, a1, fun v q => by have q' : Data.fields _ = Data.cell v := q; cases q'⟩
    · exact ⟨_, a2, fun v q => by have q' : Data.seq _ _ = Data.cell v := q; cases q'⟩
    · exact ⟨_, a3, fun v q => by have q' : Data.seq _ _ = Data.cell v := q; cases q'⟩
    · exact a4.obj
    · exact a5.obj
  keep := fun i h h' st k => by
    obtain ⟨a1, a2, ⟨x, y, a3⟩, a4, a5⟩ := st
    exact ⟨k z (by simp) _ a1, k TI (by simp) _ a2, ⟨x, y, k TO (by simp) _ a3⟩, a4.at fun o e => k i1 (by simp) o e, a5.at fun o e => k i2 (by simp) o e⟩
  item := by
    intro X hP hw hK hc i pins s σ H E I hf st hg
    subst hP hw hK
    obtain ⟨xs, x, ys, y, q1, hx, q2, hy⟩ := hg
    obtain ⟨a1, a2, ⟨u1, u2, a3⟩, a4, a5⟩ := st
    obtain ⟨its, rv, dt, hz⟩ := I.sqx q1
    obtain ⟨its', rv', dt', hz'⟩ := I.sqx q2
    obtain ⟨vx, hvx, rx⟩ := rv.get hx
    obtain ⟨vy, hvy, ry⟩ := rv'.get hy
    refine Zp.next_zip (I.ok.hd hc) D a1 a2 a3 (d1 := ⟨a4, dt⟩) (d2 := ⟨a5, dt'⟩) (fun wx wy h' f1 f2 b1 b2 b5 b3 b4 bk => ?_) (fun h' n _ => ?_)
    rotate_left
    · exfalso
      rcases n with n | n
      · rw [show its.toArray[i]? = some vx by simpa using hvx] at n; cases n
      · rw [show its'.toArray[i]? = some vy by simpa using hvy] at n; cases n
    obtain rfl : vx = wx := Option.some.inj ((show its.toArray[i]? = some vx by simpa using hvx).symm.trans f1)
    obtain rfl : vy = wy := Option.some.inj ((show its'.toArray[i]? = some vy by simpa using hvy).symm.trans f2)
    refine ⟨_, rfl, wpAny_letOwnedTupleGo_zip b1 fun h2 c1 sb => ?_⟩
    have zT : s.heap.objs.size ≠ z := Nat.ne_of_gt (Heap.lt_size a1)
    have k2 : ∀ b o, b ∉ [z, TI, TO, i1, i2] → s.heap.get? b = some o → h2.get? b = some o := fun b o hb e => by
      simp only [List.mem_cons, List.not_mem_nil, or_false, not_or] at hb
      exact sb.extBut b o hb.1 (bk b o (by simp [hb]) e)
    have hT : IsTup h2 s.heap.objs.size ([vx, vy] : List Value).toArray := ⟨_, sb.extBut _ _ zT b5, rfl, _, rfl⟩
    refine ⟨.ref s.heap.objs.size, upd H s.heap.objs.size (.tup [x, y]), I.turnedT (t' := s.toks) k2 hf (Nat.le_refl _) (.cons rx (.cons ry .nil)) (by show 2 ≤ sizeLine; decide) hT, rfl, ⟨_, x, y, rfl, I.hok.fresh (Nat.le_refl _), rfl, fun xs' h1 => ?_, fun ys' h1 => ?_⟩, ⟨c1, ?_, ⟨vx, vy, ?_⟩, ?_, ?_⟩, fun b hb => ?_⟩
    · rw [I.sqx_inj h1 q1]; exact hx
    · rw [I.sqx_inj h1 q2]; exact hy
    · exact sb.extBut _ _ D.TIz (bk _ _ (by simp [D.TIz, D.TITO, D.TIi1, D.TIi2]) a2)
    · exact sb.extBut _ _ D.TOz b2
    · exact b3.1.at fun o q => sb.extBut _ _ D.i1z q
    · exact b4.1.at fun o q => sb.extBut _ _ D.i2z q
    · have hlt : b < s.heap.objs.size := by
        simp only [List.mem_cons, List.not_mem_nil, or_false] at hb
        rcases hb with rfl | rfl | rfl | rfl | rfl
        · exact Heap.lt_size a1
        · exact Heap.lt_size a2
        · exact Heap.lt_size a3
        · obtain ⟨o, e, _⟩ := a4.obj; exact Heap.lt_size e
        · obtain ⟨o, e, _⟩ := a5.obj; exact Heap.lt_size e
      rw [upd_ne (Nat.ne_of_lt hlt)]
      exact (hf b hb).1
  done := by
    intro X hP hw hK hc i pins s σ H E I hf st hg
    subst hP hw hK
    obtain ⟨xs, ys, q1, q2, hend⟩ := hg
    obtain ⟨a1, a2, ⟨u1, u2, a3⟩, a4, a5⟩ := st
    obtain ⟨its, rv, dt, hz⟩ := I.sqx q1
    obtain ⟨its', rv', dt', hz'⟩ := I.sqx q2
    have e1 := rv.length
    have e2 := rv'.length
    have hend' : its.toArray[i]? = none ∨ its'.toArray[i]? = none := by
      rcases hend with h | h
      · left; simp; omega
      · right; simp; omega
    refine Zp.next_zip (I.ok.hd hc) D a1 a2 a3 (d1 := ⟨a4, dt⟩) (d2 := ⟨a5, dt'⟩) (fun wx wy h' f1 f2 b1 b2 b5 b3 b4 bk => ?_) (fun h' n bk => ⟨rfl, I.turnedL (t' := s.toks) (fun b o hb e => ?_) hf⟩)
    · exfalso
      rcases hend' with n | n
      · rw [f1] at n; cases n
      · rw [f2] at n; cases n
    · simp only [List.mem_cons, List.not_mem_nil, or_false, not_or] at hb
      exact bk b o (by simp [hb]) e
  self := fun _ _ _ _ _ st h => wpAny_pyIter_zip st.1 h
section
variable {X : Cx} {es : List Expr} {kk : Nat} {tp : Pos}
def iZip (t1 t2 : Bool) (K : PySem.W.Frag) (ta : TA) : TI := fun σ H R => ta σ H fun vs H1 => ∃ l1 l2 xs ys, vs = [.ref l1, .ref l2] ∧ SqX t1 K H1 l1 xs ∧ SqX t2 K H1 l2 ys ∧ R (Itz t1 t2 K l1 l2) H1
theorem pi_zip (t1 t2 : Bool) {a b : Expr} {ta : TA} {p pos : Pos} (hg : Gl X "zip") (hm : X.mg "zip" = none) (ha : PA X [a, b] ta) (hs : starEach [a, b] X.env = [(false, eval a X.env), (false, eval b X.env)] := by rfl) (hs2 : starEach [b] X.env = [(false, eval b X.env)] := by rfl) :
    PI X (.Tuple es kk tp) (.Call (.Name "zip" p) [a, b] [] pos) (iZip t1 t2 X.K ta) := by
  intro pins s σ H R I h
  refine Call_ (ld_blt I hg hm boot_zip (PyProof.Rows.callWith_type1 (thn (ha pos pins s σ H _ I h) fun us s1 ⟨vs, H1, I1, r1, q1⟩ => ?_) (by rw [hs, hs2]) (by rw [hs2]; rfl)))
  obtain ⟨l1, l2, xs, ys, e, h1, h2, q⟩ := q1
  subst e
  cases r1 with
  | cons r rr =>
    cases rr with
    | cons r' rr =>
      cases rr
      cases r
      cases r'
      obtain ⟨its, rv, dt, hz⟩ := I1.sqx h1
      obtain ⟨its', rv', dt', hz'⟩ := I1.sqx h2
      refine Zp.call_zip dt dt' fun h' ⟨z1, z2, z3, z4, z5, zk'⟩ => ?_
      have zk : ∀ c o, s1.heap.get? c = some o → h'.get? c = some o := fun c o q => zk' c o (by simp) q
      have I2 : Inv X pins σ H1 { s1 with heap := h' } := I1.kept (t' := s1.toks) zk
      have lt1 : l1 < s1.heap.objs.size := by
        cases t1
        · obtain ⟨o, e, _⟩ := (show s1.heap.IsList l1 _ from dt); exact Heap.lt_size e
        · obtain ⟨o, e, _⟩ := (show s1.heap.IsTuple l1 _ from dt); exact Heap.lt_size e
      have lt2 : l2 < s1.heap.objs.size := by
        cases t2
        · obtain ⟨o, e, _⟩ := (show s1.heap.IsList l2 _ from dt'); exact Heap.lt_size e
        · obtain ⟨o, e, _⟩ := (show s1.heap.IsTuple l2 _ from dt'); exact Heap.lt_size e
      have D : ZipApart (s1.heap.objs.size + 4) (s1.heap.objs.size + 2) (s1.heap.objs.size + 3) s1.heap.objs.size (s1.heap.objs.size + 1) l1 l2 := zipApart_new lt1 lt2
      refine wpAny_pyIter_zip z1 ⟨_, _, _, _, H1, rfl, I2, turn_zip D, ⟨z1, z2, ⟨_, _, z3⟩, z4, z5⟩, fun b hb => ?_, q⟩
      have hge : s1.heap.objs.size ≤ b := by
        simp only [List.mem_cons, List.not_mem_nil, or_false] at hb
        rcases hb with rfl | rfl | rfl | rfl | rfl
        · exact Nat.le_add_right _ _
        · exact Nat.le_add_right _ _
        · exact Nat.le_add_right _ _
        · exact Nat.le_refl _
        · exact Nat.le_add_right _ _
      exact I1.fpOk hge (I1.hok.fresh hge)
end
theorem lc_zip {t1 t2 : Bool} {K : PySem.W.Frag} {l1 l2 : Addr} {g : TG} {xs ys : List V} {te : TE} {fr : St} {H1 : Hp} {acc : Addr} {Q : VK} (Pv : Nat → List V → Hp → Prop) (hxy : xs.length = ys.length) (hn : xs.length ≤ sizeLine) (h0 : Pv 0 [] (upd H1 acc (.lst [])))
    (hg : ∀ {a : Addr} {x y v1 v2 : V} {w1 w2 : Option V} {H : Hp} {Q : St → Hp → Prop}, H a = some (.tup [x, y]) → Q (some x :: some y :: fr) H → g (.ref a) (w1 :: w2 :: fr) H Q)
    (hl : ∀ i zs H, Pv i zs H → SqX t1 K H l1 xs ∧ SqX t2 K H l2 ys)
    (hs : ∀ i x y zs H T (N : V → Hp → Prop), xs[i]? = some x → ys[i]? = some y → zs.length = i → Pv i zs H → H T = none → (∀ z H5, H5 acc = some (.lst zs) → Pv (i + 1) (zs ++ [z]) (upd H5 acc (.lst (zs ++ [z]))) → N z H5) → te (some x :: some y :: fr) (upd H T (.tup [x, y])) N)
    (hd : ∀ zs H, zs.length = xs.length → Pv xs.length zs H → Q (.ref acc) H) : LcW (Itz t1 t2 K l1 l2) g te (none :: none :: fr) H1 acc Q := by
  refine ⟨fun i m zs σ2 H2 => m = xs.length - i ∧ i ≤ xs.length ∧ zs.length = i ∧ (∃ v w, σ2 = v :: w :: fr) ∧ Pv i zs H2, ⟨xs.length, by simp, Nat.zero_le _, rfl, ⟨_, _, rfl⟩, h0⟩, ?_⟩
  rintro i m zs σ2 H2 ⟨rfl, hi, hl2, ⟨v, w, rfl⟩, p⟩
  obtain ⟨s1, s2⟩ := hl i zs H2 p
  by_cases hlt : i < xs.length
  · have e1 : xs[i]? = some xs[i] := by simp [hlt]
    have e2 : ys[i]? = some (ys[i]'(by omega)) := by simp [show i < ys.length by omega]
    refine .inr ⟨⟨xs, _, ys, _, s1, e1, s2, e2⟩, fun u H3 y3 => ?_⟩
    obtain ⟨T, x, y, rfl, hT, rfl, h1, h2⟩ := y3
    have hx := h1 xs s1
    have hy := h2 ys s2
    refine hg (v1 := x) (v2 := y) (upd_same) ?_
    refine hs i x y zs H2 T _ hx hy hl2 p hT fun z H5 a5 p5 => ⟨a5, by omega, xs.length - (i + 1), by omega, rfl, hlt, by rw [List.length_append, hl2]; rfl, ⟨_, _, rfl⟩, p5⟩
  · have e : i = xs.length := by omega
    subst e
    exact .inl ⟨⟨xs, ys, s1, s2, .inl (Nat.le_refl _)⟩, hd zs H2 hl2 p⟩
end L2

set_option maxHeartbeats 4000000
/-! bits of ints: the lowest place at 1 -/
namespace Bt
open PySem PyProof.Rows
theorem nat_and (x y : Nat) : (x &&& y) = 2 * ((x / 2) &&& (y / 2)) + (x % 2) * (y % 2) := by
  have h1 : (x &&& y) / 2 = (x / 2) &&& (y / 2) := Nat.and_div_two
  have h2 : (x &&& y) % 2 = 1 ↔ x % 2 = 1 ∧ y % 2 = 1 := Nat.and_mod_two_eq_one
  rcases Nat.mod_two_eq_zero_or_one x with a | a <;> rcases Nat.mod_two_eq_zero_or_one y with b | b <;> rw [a, b] at h2 ⊢ <;> omega
theorem nat_or (x y : Nat) : (x ||| y) = 2 * ((x / 2) ||| (y / 2)) + (x % 2 + y % 2 - (x % 2) * (y % 2)) := by
  have h1 : (x ||| y) / 2 = (x / 2) ||| (y / 2) := Nat.or_div_two
  have h2 : (x ||| y) % 2 = 1 ↔ x % 2 = 1 ∨ y % 2 = 1 := Nat.or_mod_two_eq_one
  rcases Nat.mod_two_eq_zero_or_one x with a | a <;> rcases Nat.mod_two_eq_zero_or_one y with b | b <;> rw [a, b] at h2 ⊢ <;> omega
def Half (x y : Int) : Prop := Builtin.bitAnd x y = 2 * Builtin.bitAnd (x / 2) (y / 2) + (x % 2) * (y % 2)
theorem Half.swap {x y : Int} (h : Half x y) : Half y x := by
  unfold Half at h ⊢
  rw [bitAnd_comm y x, bitAnd_comm (y / 2), Int.mul_comm (y % 2)]; exact h
theorem Half.flip {x y : Int} (h : Half x (Builtin.bitNot y)) : Half x y := by
  unfold Half at h ⊢
  have e := bitAnd_not x (Builtin.bitNot y)
  have e2 := bitAnd_not (x / 2) (Builtin.bitNot (y / 2))
  rw [bitNot_bitNot] at e e2
  have q : Builtin.bitNot (y / 2) = Builtin.bitNot y / 2 := by unfold Builtin.bitNot; omega
  have p : x % 2 * (y % 2) = x % 2 - x % 2 * (Builtin.bitNot y % 2) := by
    rw [show y % 2 = 1 - Builtin.bitNot y % 2 by unfold Builtin.bitNot; omega, Int.mul_sub, Int.mul_one]
  rw [e, e2, q, h, p]; omega
theorem Half.pos {x y : Int} (hx : 0 ≤ x) (hy : 0 ≤ y) : Half x y := by
  have h : ∀ {z : Int}, 0 ≤ z → z.toNat / 2 = (z / 2).toNat ∧ ((z.toNat % 2 : Nat) : Int) = z % 2 := fun h => by omega
  unfold Half
  rw [bitAnd_pp hx hy, bitAnd_pp (Int.ediv_nonneg hx (by decide)) (Int.ediv_nonneg hy (by decide)), nat_and, (h hx).1, (h hy).1, ← (h hx).2, ← (h hy).2, Int.natCast_add, Int.natCast_mul, Int.natCast_mul]; rfl
theorem Half.right {x : Int} (hx : 0 ≤ x) (y : Int) : Half x y :=
  (Classical.em (0 ≤ y)).elim (Half.pos hx) fun hy => (Half.pos hx (bitNot_nonneg.mpr hy)).flip
theorem and_half (x y : Int) : Builtin.bitAnd x y = 2 * Builtin.bitAnd (x / 2) (y / 2) + (x % 2) * (y % 2) :=
  (Classical.em (0 ≤ x)).elim (fun hx => Half.right hx y) fun hx => (Half.right (bitNot_nonneg.mpr hx) y).swap.flip.swap
theorem or_half (x y : Int) : Builtin.bitOr x y = 2 * Builtin.bitOr (x / 2) (y / 2) + (x % 2 + y % 2 - (x % 2) * (y % 2)) := by
  rw [bitOr_and, bitOr_and, and_half]
  omega
theorem pow_succ_dvd {v : Nat} {x : Int} : (2 : Int) ^ (v + 1) ∣ x ↔ x % 2 = 0 ∧ (2 : Int) ^ v ∣ x / 2 := by
  constructor
  · rintro ⟨k, rfl⟩
    have e : (2 : Int) ^ (v + 1) * k = 2 * (2 ^ v * k) := by rw [Int.pow_succ]; grind
    rw [e]
    exact ⟨by omega, ⟨k, by omega⟩⟩
  · rintro ⟨h0, k, hk⟩
    refine ⟨k, ?_⟩
    have e : (2 : Int) ^ (v + 1) * k = 2 * (2 ^ v * k) := by rw [Int.pow_succ]; grind
    rw [e, ← hk]
    omega
theorem or_dvd : ∀ (v : Nat) (x y : Int), (2 : Int) ^ v ∣ Builtin.bitOr x y ↔ (2 : Int) ^ v ∣ x ∧ (2 : Int) ^ v ∣ y
  | 0, x, y => by simp
  | v + 1, x, y => by
    rw [pow_succ_dvd, pow_succ_dvd, pow_succ_dvd]
    have e := or_half x y
    have ih := or_dvd v (x / 2) (y / 2)
    have ex := Int.emod_two_eq x
    have ey := Int.emod_two_eq y
    rcases ex with a | a <;> rcases ey with b | b <;> rw [a, b] at e ⊢
    · have e2 : Builtin.bitOr x y / 2 = Builtin.bitOr (x / 2) (y / 2) := by omega
      rw [e2, ih]
      have e3 : Builtin.bitOr x y % 2 = 0 := by omega
      simp [e3]
    all_goals
      have e3 : Builtin.bitOr x y % 2 = 1 := by omega
      simp [e3]
theorem lt_two_pow (n : Nat) : n < 2 ^ n := Nat.lt_two_pow_self
theorem zero_of_dvd {x : Int} (h : ∀ v : Nat, (2 : Int) ^ v ∣ x) : x = 0 := by
  have h1 := h x.natAbs
  apply Classical.byContradiction
  intro hx
  have h2 := Int.natAbs_dvd_natAbs.mpr h1
  have h3 := Nat.le_of_dvd (by omega) h2
  rw [Int.natAbs_pow] at h3
  have := lt_two_pow x.natAbs
  have e : (2 : Int).natAbs = 2 := rfl
  rw [e] at h3
  omega
theorem or_zero {x y : Int} : Builtin.bitOr x y = 0 ↔ x = 0 ∧ y = 0 := by
  constructor
  · intro h
    have hd : ∀ v : Nat, (2 : Int) ^ v ∣ Builtin.bitOr x y := fun v => by rw [h]; exact Int.dvd_zero _
    exact ⟨zero_of_dvd fun v => ((or_dvd v x y).mp (hd v)).1, zero_of_dvd fun v => ((or_dvd v x y).mp (hd v)).2⟩
  · rintro ⟨rfl, rfl⟩
    decide +kernel
theorem low_bit : ∀ (n : Nat) (p : Int), p.natAbs < n → p ≠ 0 → ∃ (v : Nat) (q : Int), p = 2 ^ v * q ∧ q % 2 = 1 ∧ Builtin.bitAnd p (-p) = ((2 ^ v : Nat) : Int)
  | 0, p, h, _ => by omega
  | n + 1, p, h, hp => by
    rcases Int.emod_two_eq p with h0 | h1
    · obtain ⟨v, q, e, o, b⟩ := low_bit n (p / 2) (by omega) (by omega)
      refine ⟨v + 1, q, ?_, o, ?_⟩
      · have e2 : (2 : Int) ^ (v + 1) * q = 2 * (2 ^ v * q) := by rw [Int.pow_succ]; grind
        rw [e2, ← e]; omega
      · rw [and_half, show (-p) / 2 = -(p / 2) by omega, b, h0, Nat.pow_succ]
        omega
    · refine ⟨0, p, by simp, h1, ?_⟩
      rw [and_half, show (-p) / 2 = Builtin.bitNot (p / 2) by unfold Builtin.bitNot; omega, bitAnd_not, bitAnd_self, h1, show (-p) % 2 = 1 by omega]
      rw [Int.sub_self]; rfl
theorem bits_pow (v : Nat) : Builtin.Int.intBits ((2 ^ v : Nat) : Int) = v + 1 := by
  unfold Builtin.Int.intBits
  have hp : 0 < 2 ^ v := Nat.two_pow_pos v
  have hne : ((((2 ^ v : Nat) : Int)) == 0) = false := by
    rw [beq_eq_false_iff_ne]; omega
  rw [hne, Int.natAbs_natCast, Nat.log2_two_pow]
  rfl
end Bt

set_option maxHeartbeats 4000000
/-! more rules: great shifts, bit_length, any and all of bools, lists of ints compared -/
namespace L2
open PySem PySem.Spec PyProof.Rows
section
variable {X : Cx}
def CShl (i j : Int) : Prop := ∃ a, Sz a i ∧ 0 ≤ j ∧ (a : Int) + j ≤ 1048576
theorem op_shlS : OpR X (binaryOp .LShift) (rI CShl fun i j => .int (i * 2 ^ j.toNat)) := opI fun i j _ _ _ _ _ hc q => by
  obtain ⟨a, h1, h2, h3⟩ := hc
  have := h1.bits
  exact lshift_int h2 (by omega) q
theorem mt_bitlen : MtR X "int.bit_length" (fun x xs H Q => ∃ i, x = .int i ∧ xs = [] ∧ Q (.int (Builtin.Int.intBits i : Nat)) H) := by
  intro pins s σ H x xs v us Q I rx rs h
  obtain ⟨i, rfl, rfl, q⟩ := h
  obtain ⟨t, rfl⟩ := rx
  cases rs
  refine call_gives PySem.F.slot_int_bit_length (typeIs_int s i t) PySem.F.entry_int_bit_length (PySem.F.args_int_bit_length_1 _) (PySem.AutoIntG2.int_bit_length_int_0 i t) ?_
  exact ⟨.int (Builtin.Int.intBits i : Nat), H, I.tok _, ⟨_, rfl⟩, q⟩
theorem call_anyL (hc : X.calm = true) : CallR X (.builtin "any") (fun xs H Q => ∃ (p : Addr) (bs : List Bool), xs = [.ref p] ∧ SqL X.K H p (bs.map V.bl) ∧ Q (.bl (bs.any id)) H) := by
  intro pins s σ H xs us Q I r h
  obtain ⟨p, bs, rfl, hq, q⟩ := h
  obtain ⟨u, rfl, ru⟩ := r.one
  cases ru
  obtain ⟨its, rv, pl, hz⟩ := I.list hq
  have hlen : its.length = bs.length := by rw [← rv.length, List.length_map]
  refine call_any_walk (wpAny_pyIter_list pl.isList ?_)
  have W := Walks.list (prog := X.prog) (w := X.w) (A := X.A.in1) (show X.A.in1.handled = none from I.ok.hd hc) s.heap.objs.size p (by
    obtain ⟨o, e, _⟩ := pl.isList
    exact Nat.ne_of_lt (Heap.lt_size e)) its.toArray
  refine ⟨s.heap.objs.size, _, _, _, _, _, fun i => bs.getD i false, rfl, W, ⟨⟨_, Heap.get?_push_size _ rfl, rfl, rfl⟩, pl.isList.push _⟩, ?_, fun h' tk hk => ?_⟩
  · intro i v s' Q' E' hv hQ
    have hv' : its[i]? = some v := by simpa using hv
    have hi : i < bs.length := by rw [← hlen]; exact (List.getElem?_eq_some_iff.mp hv').1
    have hb : (bs.map V.bl)[i]? = some (.bl (bs.getD i false)) := by
      rw [List.getElem?_map, List.getElem?_eq_getElem hi, List.getD_eq_getElem?_getD, List.getElem?_eq_getElem hi]; rfl
    obtain ⟨u, hu, ru⟩ := rv.get hb
    rw [hv'] at hu
    cases hu
    cases ru
    exact wpAny_truthy_bool hQ
  · have e : (List.range its.toArray.size).any (fun i => bs.getD i false) = bs.any id := by
      rw [List.size_toArray, hlen]
      rw [Bool.eq_iff_iff, List.any_eq_true, List.any_eq_true]
      constructor
      · rintro ⟨i, hi, hb⟩
        have hi' : i < bs.length := List.mem_range.mp hi
        rw [List.getD_eq_getElem?_getD, List.getElem?_eq_getElem hi'] at hb
        exact ⟨bs[i], List.getElem_mem hi', hb⟩
      · rintro ⟨b, hb, hb'⟩
        obtain ⟨i, hi, rfl⟩ := List.mem_iff_getElem.mp hb
        refine ⟨i, List.mem_range.mpr hi, ?_⟩
        rw [List.getD_eq_getElem?_getD, List.getElem?_eq_getElem hi]
        exact hb'
    rw [e]
    refine ⟨.bl (bs.any id), H, ?_, rfl, q⟩
    exact I.kept (t' := tk) fun b o eo => hk b o (by simp; exact Nat.ne_of_lt (Heap.lt_size eo)) (Heap.get?_push_of_some _ eo)
end
end L2

set_option maxHeartbeats 4000000
/-! amounts: four parts and halvings -/
namespace Am
open PySem
abbrev p2 (h : Int) : Int := 2 ^ h.toNat
theorem p2_pos (h : Int) : 0 < p2 h := Int.pow_pos (by decide)
theorem p2_ne (h : Int) : p2 h ≠ 0 := by have := p2_pos h; omega
theorem p2_add {a b : Int} (ha : 0 ≤ a) (hb : 0 ≤ b) : p2 (a + b) = p2 a * p2 b := by
  unfold p2
  rw [show (a + b).toNat = a.toNat + b.toNat by omega, Int.pow_add]
theorem p2_sub {a b : Int} (hb : 0 ≤ b) (h : b ≤ a) : p2 a = p2 (a - b) * p2 b := by
  rw [← p2_add (by omega) hb]
  congr 1
  omega
structure Amt (a b c d h : Int) : Prop where
  nn : 0 ≤ h
  odd : h = 0 ∨ a % 2 = 1 ∨ b % 2 = 1 ∨ c % 2 = 1 ∨ d % 2 = 1
def Eq2 (x h y g : Int) : Prop := x * p2 g = y * p2 h
structure Same4 (a b c d h a' b' c' d' h' : Int) : Prop where
  e1 : Eq2 a h a' h'
  e2 : Eq2 b h b' h'
  e3 : Eq2 c h c' h'
  e4 : Eq2 d h d' h'
theorem Same4.symm {a b c d h a' b' c' d' h' : Int} (s : Same4 a b c d h a' b' c' d' h') : Same4 a' b' c' d' h' a b c d h := ⟨s.e1.symm, s.e2.symm, s.e3.symm, s.e4.symm⟩
theorem Eq2.trans {x h y g z k : Int} (a : Eq2 x h y g) (b : Eq2 y g z k) : Eq2 x h z k := by
  unfold Eq2 at *
  have h1 : (x * p2 k) * p2 g = (z * p2 h) * p2 g := by
    have e1 : (x * p2 k) * p2 g = (x * p2 g) * p2 k := by grind
    have e2 : (z * p2 h) * p2 g = (z * p2 g) * p2 h := by grind
    rw [e1, e2, a, ← b]; grind
  exact Int.eq_of_mul_eq_mul_right (p2_ne g) h1
theorem Same4.trans {a b c d h a' b' c' d' h' a2 b2 c2 d2 h2 : Int} (s : Same4 a b c d h a' b' c' d' h') (t : Same4 a' b' c' d' h' a2 b2 c2 d2 h2) : Same4 a b c d h a2 b2 c2 d2 h2 :=
  ⟨s.e1.trans t.e1, s.e2.trans t.e2, s.e3.trans t.e3, s.e4.trans t.e4⟩
theorem Eq2.lift {x h y g : Int} (hh : 0 ≤ h) (hg : h ≤ g) (e : Eq2 x h y g) : y = x * p2 (g - h) := by
  unfold Eq2 at e
  rw [p2_sub hh hg] at e
  have : (x * p2 (g - h)) * p2 h = y * p2 h := by rw [← e]; grind
  exact (Int.eq_of_mul_eq_mul_right (p2_ne h) this).symm
theorem even_lift {x n : Int} (hn : 0 < n) : (x * p2 n) % 2 = 0 := by
  have e : p2 n = p2 (n - 1) * 2 := by
    rw [p2_sub (a := n) (b := 1) (by decide) (by omega)]
    rfl
  rw [e, ← Int.mul_assoc]
  omega
theorem Amt.unique_le {a b c d h a' b' c' d' h' : Int} (x : Amt a b c d h) (y : Amt a' b' c' d' h') (s : Same4 a b c d h a' b' c' d' h') (hle : h ≤ h') : a = a' ∧ b = b' ∧ c = c' ∧ d = d' ∧ h = h' := by
  have e1 := s.e1.lift x.nn hle
  have e2 := s.e2.lift x.nn hle
  have e3 := s.e3.lift x.nn hle
  have e4 := s.e4.lift x.nn hle
  have he : h = h' := by
    apply Classical.byContradiction
    intro hne
    have hp : 0 < h' - h := by omega
    have o := y.odd
    rw [e1, e2, e3, e4, even_lift hp, even_lift hp, even_lift hp, even_lift hp] at o
    have := x.nn
    omega
  subst he
  simp only [Int.sub_self, p2, Int.toNat_zero, Int.pow_zero, Int.mul_one] at e1 e2 e3 e4
  exact ⟨e1.symm, e2.symm, e3.symm, e4.symm, rfl⟩
theorem Amt.unique {a b c d h a' b' c' d' h' : Int} (x : Amt a b c d h) (y : Amt a' b' c' d' h') (s : Same4 a b c d h a' b' c' d' h') : a = a' ∧ b = b' ∧ c = c' ∧ d = d' ∧ h = h' := by
  rcases Int.le_total h h' with hle | hle
  · exact x.unique_le y s hle
  · obtain ⟨q1, q2, q3, q4, q5⟩ := y.unique_le x s.symm hle
    exact ⟨q1.symm, q2.symm, q3.symm, q4.symm, q5.symm⟩
abbrev orAll (a b c d : Int) : Int := Builtin.bitOr (Builtin.bitOr (Builtin.bitOr a b) c) d
theorem orAll_dvd {v : Nat} {a b c d : Int} : (2 : Int) ^ v ∣ orAll a b c d ↔ ((2 : Int) ^ v ∣ a ∧ (2 : Int) ^ v ∣ b ∧ (2 : Int) ^ v ∣ c ∧ (2 : Int) ^ v ∣ d) := by
  unfold orAll
  rw [Bt.or_dvd, Bt.or_dvd, Bt.or_dvd]
  constructor
  · rintro ⟨⟨⟨h1, h2⟩, h3⟩, h4⟩; exact ⟨h1, h2, h3, h4⟩
  · rintro ⟨h1, h2, h3, h4⟩; exact ⟨⟨⟨h1, h2⟩, h3⟩, h4⟩
theorem orAll_zero {a b c d : Int} : orAll a b c d = 0 ↔ (a = 0 ∧ b = 0 ∧ c = 0 ∧ d = 0) := by
  unfold orAll
  rw [Bt.or_zero, Bt.or_zero, Bt.or_zero]
  constructor
  · rintro ⟨⟨⟨h1, h2⟩, h3⟩, h4⟩; exact ⟨h1, h2, h3, h4⟩
  · rintro ⟨h1, h2, h3, h4⟩; exact ⟨⟨⟨h1, h2⟩, h3⟩, h4⟩
theorem lowest {a b c d : Int} (hp : orAll a b c d ≠ 0) : ∃ v : Nat, ((Builtin.Int.intBits (Builtin.bitAnd (orAll a b c d) (-(orAll a b c d))) : Nat) : Int) - 1 = v ∧ ((2 : Int) ^ v ∣ a ∧ (2 : Int) ^ v ∣ b ∧ (2 : Int) ^ v ∣ c ∧ (2 : Int) ^ v ∣ d) ∧
    ¬ ((2 : Int) ^ (v + 1) ∣ a ∧ (2 : Int) ^ (v + 1) ∣ b ∧ (2 : Int) ^ (v + 1) ∣ c ∧ (2 : Int) ^ (v + 1) ∣ d) := by
  obtain ⟨v, q, e, o, bb⟩ := Bt.low_bit _ (orAll a b c d) (Nat.lt_succ_self _) hp
  refine ⟨v, by rw [bb, Bt.bits_pow]; omega, orAll_dvd.mp ⟨q, e⟩, fun h => ?_⟩
  have h' := orAll_dvd.mpr h
  obtain ⟨k, hk⟩ := h'
  rw [e, Int.pow_succ, Int.mul_assoc] at hk
  have := Int.eq_of_mul_eq_mul_left (Int.ne_of_gt (Int.pow_pos (by decide) : (0 : Int) < 2 ^ v)) hk
  omega
theorem div_part {x h m : Int} (hm : 0 ≤ m) (hmh : m ≤ h) (hd : (2 : Int) ^ m.toNat ∣ x) : Eq2 x h (x / 2 ^ m.toNat) (h - m) ∧ (x / 2 ^ m.toNat).natAbs ≤ x.natAbs := by
  obtain ⟨k, rfl⟩ := hd
  have hne : (2 : Int) ^ m.toNat ≠ 0 := p2_ne m
  rw [Int.mul_ediv_cancel_left _ hne]
  constructor
  · unfold Eq2
    rw [p2_sub hm hmh]
    show 2 ^ m.toNat * k * p2 (h - m) = k * (p2 (h - m) * 2 ^ m.toNat)
    grind
  · rw [Int.natAbs_mul]
    exact Nat.le_mul_of_pos_left _ (by omega)
theorem dvd_le {x : Int} {m v : Nat} (h : m ≤ v) (hd : (2 : Int) ^ v ∣ x) : (2 : Int) ^ m ∣ x := by
  obtain ⟨k, rfl⟩ := hd
  refine ⟨2 ^ (v - m) * k, ?_⟩
  rw [← Int.mul_assoc, ← Int.pow_add, show m + (v - m) = v by omega]
theorem halve {a b c d h : Int} (hh : 0 ≤ h) {v : Nat} (hd : (2 : Int) ^ v ∣ a ∧ (2 : Int) ^ v ∣ b ∧ (2 : Int) ^ v ∣ c ∧ (2 : Int) ^ v ∣ d)
    (hn : ¬ ((2 : Int) ^ (v + 1) ∣ a ∧ (2 : Int) ^ (v + 1) ∣ b ∧ (2 : Int) ^ (v + 1) ∣ c ∧ (2 : Int) ^ (v + 1) ∣ d)) {m : Int} (hm : m = if h < v then h else v) :
    0 ≤ m ∧ m ≤ h ∧ Amt (a / 2 ^ m.toNat) (b / 2 ^ m.toNat) (c / 2 ^ m.toNat) (d / 2 ^ m.toNat) (h - m) ∧ Same4 a b c d h (a / 2 ^ m.toNat) (b / 2 ^ m.toNat) (c / 2 ^ m.toNat) (d / 2 ^ m.toNat) (h - m) ∧
    ((a / 2 ^ m.toNat).natAbs ≤ a.natAbs ∧ (b / 2 ^ m.toNat).natAbs ≤ b.natAbs ∧ (c / 2 ^ m.toNat).natAbs ≤ c.natAbs ∧ (d / 2 ^ m.toNat).natAbs ≤ d.natAbs) := by
  have m0 : 0 ≤ m := by rw [hm]; split <;> omega
  have m1 : m ≤ h := by rw [hm]; split <;> omega
  have mv : m.toNat ≤ v := by rw [hm]; split <;> omega
  obtain ⟨d1, d2, d3, d4⟩ := hd
  have q1 := div_part m0 m1 (dvd_le mv d1)
  have q2 := div_part m0 m1 (dvd_le mv d2)
  have q3 := div_part m0 m1 (dvd_le mv d3)
  have q4 := div_part m0 m1 (dvd_le mv d4)
  refine ⟨m0, m1, ⟨by omega, ?_⟩, ⟨q1.1, q2.1, q3.1, q4.1⟩, q1.2, q2.2, q3.2, q4.2⟩
  by_cases hlt : h < v
  · left
    rw [hm, if_pos hlt]
    omega
  · right
    have hmv : m.toNat = v := by rw [hm, if_neg hlt]; omega
    rw [hmv]
    have tail : ∀ x : Int, (2 : Int) ^ v ∣ x → ¬ (x / 2 ^ v) % 2 = 1 → (2 : Int) ^ (v + 1) ∣ x := by
      rintro x ⟨k, rfl⟩ ho
      have hne : (2 : Int) ^ v ≠ 0 := Int.ne_of_gt (Int.pow_pos (by decide))
      rw [Int.mul_ediv_cancel_left _ hne] at ho
      refine ⟨k / 2, ?_⟩
      rw [Int.pow_succ, Int.mul_assoc]
      congr 1
      omega
    apply Classical.byContradiction
    intro hno
    apply hn
    refine ⟨tail a d1 fun o => hno (.inl o), tail b d2 fun o => hno (.inr (.inl o)), tail c d3 fun o => hno (.inr (.inr (.inl o))), tail d d4 fun o => hno (.inr (.inr (.inr o)))⟩
end Am

set_option maxHeartbeats 4000000
/-! how many binary places of a number are at 1 -/
namespace Pc
open PySem PyProof.Rows
def pc (n : Nat) : Nat := if h : n = 0 then 0 else n % 2 + pc (n / 2)
theorem pc_zero : pc 0 = 0 := by unfold pc; simp
theorem pc_half (n : Nat) : pc n = n % 2 + pc (n / 2) := by
  by_cases h : n = 0
  · subst h; rw [show (0 / 2 : Nat) = 0 from rfl, pc_zero]
  · conv => lhs; unfold pc
    rw [dif_neg h]
theorem nat_xor (x y : Nat) : (x ^^^ y) = 2 * ((x / 2) ^^^ (y / 2)) + (x % 2 + y % 2) % 2 := by
  have h1 : (x ^^^ y) / 2 = (x / 2) ^^^ (y / 2) := Nat.xor_div_two
  have h2 : (x ^^^ y) % 2 = (x % 2 + y % 2) % 2 := by
    have := Nat.xor_mod_two_eq_one (a := x) (b := y)
    rcases Nat.mod_two_eq_zero_or_one x with a | a <;> rcases Nat.mod_two_eq_zero_or_one y with b | b <;> rcases Nat.mod_two_eq_zero_or_one (x ^^^ y) with c | c <;> simp [a, b, c] at this ⊢
  omega
theorem pc_drop : ∀ (m n : Nat), n < m → n ≠ 0 → pc (n &&& (n - 1)) + 1 = pc n
  | 0, n, h, _ => by omega
  | m + 1, n, h, hn => by
    have e := Bt.nat_and n (n - 1)
    rw [pc_half n, pc_half (n &&& (n - 1))]
    rcases Nat.mod_two_eq_zero_or_one n with a | a
    · have e1 : (n - 1) / 2 = n / 2 - 1 := by omega
      rw [e1, a, Nat.zero_mul] at e
      have e2 : (n &&& (n - 1)) / 2 = n / 2 &&& (n / 2 - 1) := by omega
      have e3 : (n &&& (n - 1)) % 2 = 0 := by omega
      rw [e2, e3, a]
      have := pc_drop m (n / 2) (by omega) (by omega)
      omega
    · have e1 : (n - 1) / 2 = n / 2 := by omega
      have e0 : (n - 1) % 2 = 0 := by omega
      rw [e1, e0, Nat.mul_zero, Nat.and_self] at e
      have e2 : (n &&& (n - 1)) / 2 = n / 2 := by omega
      have e3 : (n &&& (n - 1)) % 2 = 0 := by omega
      rw [e2, e3, a]
      omega
theorem pc_xor : ∀ (m x y : Nat), x < m → y < m → pc (x ^^^ y) % 2 = (pc x + pc y) % 2
  | 0, x, y, h, _ => by omega
  | m + 1, x, y, hx, hy => by
    by_cases z : x = 0 ∧ y = 0
    · obtain ⟨rfl, rfl⟩ := z
      rw [show (0 ^^^ 0 : Nat) = 0 from rfl, pc_zero]
    · have e := nat_xor x y
      rw [pc_half (x ^^^ y), pc_half x, pc_half y, show (x ^^^ y) / 2 = x / 2 ^^^ y / 2 by omega]
      by_cases q : x / 2 < m ∧ y / 2 < m
      · have := pc_xor m (x / 2) (y / 2) q.1 q.2
        omega
      · exfalso; omega
theorem pcx (x y : Nat) : pc (x ^^^ y) % 2 = (pc x + pc y) % 2 := pc_xor (x + y + 1) x y (by omega) (by omega)
theorem or_eq : ∀ (m x y : Nat), x < m → y < m → (x ||| y) = (x ^^^ y) + (x &&& y)
  | 0, x, y, h, _ => by omega
  | m + 1, x, y, hx, hy => by
    by_cases z : x = 0 ∧ y = 0
    · obtain ⟨rfl, rfl⟩ := z; rfl
    · have e := nat_xor x y
      have e1 := Bt.nat_and x y
      have e2 := Bt.nat_or x y
      by_cases q : x / 2 < m ∧ y / 2 < m
      · have := or_eq m (x / 2) (y / 2) q.1 q.2
        rcases Nat.mod_two_eq_zero_or_one x with a | a <;> rcases Nat.mod_two_eq_zero_or_one y with b | b <;> rw [a, b] at e e1 e2 <;> omega
      · exfalso; omega
theorem and_i (x y : Nat) : Builtin.bitAnd (x : Int) (y : Int) = ((x &&& y : Nat) : Int) := by rw [bitAnd_pp (by omega) (by omega)]; simp
theorem xor_i (x y : Nat) : Builtin.bitXor (x : Int) (y : Int) = ((x ^^^ y : Nat) : Int) := by
  have h : Builtin.bitXor (x : Int) (y : Int) = Builtin.bitOr x y - Builtin.bitAnd x y := rfl
  have h2 : Builtin.bitOr (x : Int) (y : Int) = ((x ||| y : Nat) : Int) := by
    unfold Builtin.bitOr
    rw [bitAnd_nn (by unfold Builtin.bitNot; omega) (by unfold Builtin.bitNot; omega), bitNot_bitNot, bitNot_bitNot, bitNot_bitNot]
    simp
  rw [h, h2, and_i, or_eq (x + y + 1) x y (by omega) (by omega)]
  omega
theorem xor_lt {x y n : Nat} (h : x < 2 ^ n) (h' : y < 2 ^ n) : (x ^^^ y) < 2 ^ n := Nat.xor_lt_two_pow h h'
end Pc

set_option maxHeartbeats 4000000
namespace L2
open PySem PySem.Spec PyProof.Rows
theorem Same.tup {K : PySem.W.Frag} {H H' : Hp} {a : Addr} {xs : List V} (e : Same H H') (h : SqT K H a xs) : SqT K H' a xs := by
  rcases h with h | h
  · rcases h with h | ⟨o, h⟩
    · exact .inl (.inl (e _ _ h))
    · exact .inl (.inr ⟨o, e _ _ h⟩)
  · exact .inr h
theorem Same.sqx {t : Bool} {K : PySem.W.Frag} {H H' : Hp} {a : Addr} {xs : List V} (e : Same H H') (h : SqX t K H a xs) : SqX t K H' a xs := by
  cases t
  · exact e.seq (show SqL K H a xs from h)
  · exact e.tup (show SqT K H a xs from h)
section
variable {X : Cx} {scope : Scope} {Nc : List Str} {ex : List Addr} {pins : List (Addr × Obj)} {s : Shared} {H : Hp}
theorem ix_tupC : IxR (cxLc X scope Nc ex pins s H) (rIxT X.K) := ix_tup
theorem pg_pairC {x y : Str} {k : Nat} {p1 p2 pos : Pos} (hc : (cxLc X scope Nc ex pins s H).calm = true) (hN : Nc.Nodup) (h0 : Nc[0]? = some x) (h1 : Nc[1]? = some y) (l0 : (cxLc X scope Nc ex pins s H).env.scope.names.lookup x = some .local) (l1 : (cxLc X scope Nc ex pins s H).env.scope.names.lookup y = some .local) :
    PG (cxLc X scope Nc ex pins s H) (.Tuple [.Name x p1, .Name y p2] k pos) (gTup X.K 2 (gCons (gName 0) (gCons (gName 1) gNil))) :=
  pg_tup (X := cxLc X scope Nc ex pins s H) hc (pgs_cons (pg_name (i := 0) hN h0 (.inl l0) (.inr l0)) (pgs_cons (pg_name (i := 1) hN h1 (.inl l1) (.inr l1)) pgs_nil))
end
theorem lc_zipI {t1 t2 : Bool} {K : PySem.W.Frag} {l1 l2 : Addr} {g : TG} {ns ms : List Int} {te : TE} {fr : St} {H1 : Hp} {acc : Addr} {Q : VK} (f : Int → Int → Int) (hxy : ns.length = ms.length) (hn : ns.length ≤ sizeLine)
    (h1 : SqX t1 K H1 l1 (ns.map V.int)) (h2 : SqX t2 K H1 l2 (ms.map V.int)) (hacc : H1 acc = none)
    (hg : ∀ {a : Addr} {x y : V} {w1 w2 : Option V} {H : Hp} {Q : St → Hp → Prop}, H a = some (.tup [x, y]) → Q (some x :: some y :: fr) H → g (.ref a) (w1 :: w2 :: fr) H Q)
    (hs : ∀ n m H (N : V → Hp → Prop), n ∈ ns → m ∈ ms → N (.int (f n m)) H → te (some (.int n) :: some (.int m) :: fr) H N)
    (hd : ∀ H2, Same H1 H2 → H2 acc = some (.lst ((List.zipWith f ns ms).map V.int)) → Q (.ref acc) H2) : LcW (Itz t1 t2 K l1 l2) g te (none :: none :: fr) H1 acc Q := by
  refine lc_zip (xs := ns.map V.int) (ys := ms.map V.int) (fun i zs H' => Same H1 H' ∧ H' acc = some (.lst zs) ∧ zs = ((List.zipWith f ns ms).take i).map V.int) (by simp [hxy]) (by simp; exact hn)
    ⟨same_new hacc _, upd_same, rfl⟩ (fun ha hQ => hg ha hQ) (fun i zs H p => ⟨p.1.sqx h1, p.1.sqx h2⟩) ?_ ?_
  · rintro i x y zs H T N hx hy hl ⟨s2, a2, e2⟩ hT kN
    rw [List.getElem?_map] at hx hy
    obtain ⟨n, hn1, rfl⟩ := Option.map_eq_some_iff.mp hx
    obtain ⟨m, hm1, rfl⟩ := Option.map_eq_some_iff.mp hy
    refine hs n m _ _ (List.mem_of_getElem? hn1) (List.mem_of_getElem? hm1) ?_
    have hTa : acc ≠ T := fun e => by rw [← e, a2] at hT; cases hT
    refine kN _ _ (by rw [upd_ne hTa]; exact a2) ⟨same_upd (s2.trans (same_new hT _)) hacc, upd_same, ?_⟩
    have : (List.zipWith f ns ms)[i]? = some (f n m) := by rw [List.getElem?_zipWith, hn1, hm1]
    rw [List.take_add_one, this, List.map_append, e2]
    rfl
  · rintro zs H hl ⟨s2, a2, e2⟩
    refine hd H s2 ?_
    rw [a2, e2, List.take_of_length_le]
    simp only [List.length_zipWith, List.length_map]
    omega
end L2
namespace L2
open PySem PySem.Spec PyProof.Rows
section
variable {K : PySem.W.Frag} {a : Addr} {ns : List Int} {te : TE} {fr : St} {H1 : Hp} {acc : Addr} {Q : VK}
theorem lc_pure {J : It} {n : Nat} {val : Nat → V} (f : Nat → V) (hn : n ≤ sizeLine) (hacc : H1 acc = none)
    (hgo : ∀ i H, i < n → Same H1 H → J.go i H ∧ ∀ x H', J.yld i H x H' → H' = H ∧ x = val i) (hst : ∀ H, Same H1 H → J.stop n H)
    (hs : ∀ i H (N : V → Hp → Prop), i < n → Same H1 H → N (f i) H → te (some (val i) :: fr) H N)
    (hd : ∀ H2, Same H1 H2 → H2 acc = some (.lst ((List.range n).map f)) → Q (.ref acc) H2) : LcW J (gName 0) te (none :: fr) H1 acc Q := by
  refine lc_by (val := val) (fun i ys H' => Same H1 H' ∧ H' acc = some (.lst ys) ∧ ys = (List.range i).map f) hn ⟨same_new hacc _, upd_same, rfl⟩ (fun i ys H hi p => hgo i H hi p.1) (fun ys H p => hst H p.1) ?_ ?_
  · rintro i ys H N hi hl ⟨s2, a2, e2⟩ kN
    refine hs i H N hi s2 (kN _ _ a2 ⟨same_upd s2 hacc, upd_same, ?_⟩)
    rw [e2, List.range_succ, List.map_append]
    rfl
  · rintro ys H hl ⟨s2, a2, e2⟩
    exact hd H s2 (by rw [a2, e2])
theorem range_map (ns : List Int) (f : Int → V) : (List.range ns.length).map (fun i => f (ns.getD i 0)) = ns.map f := by
  apply List.ext_getElem
  · simp
  · intro i h1 h2
    simp at h1
    simp [h1]
theorem lc_listP (f : Int → V) (hl : SqL K H1 a (ns.map V.int)) (hn : ns.length ≤ sizeLine) (hacc : H1 acc = none) (hs : ∀ n H (N : V → Hp → Prop), Same H1 H → N (f n) H → te (some (.int n) :: fr) H N)
    (hd : ∀ H2, Same H1 H2 → H2 acc = some (.lst (ns.map f)) → Q (.ref acc) H2) : LcW (Itl K a) (gName 0) te (none :: fr) H1 acc Q := by
  refine lc_pure (n := ns.length) (val := fun i => .int (ns.getD i 0)) (fun i => f (ns.getD i 0)) hn hacc (fun i H hi s => ?_) (fun H s => ⟨_, s.seq hl, by simp⟩) (fun i H N hi s kN => hs _ H N s kN) (fun H2 s h => hd H2 s (by rw [h, range_map]))
  have e : (ns.map V.int)[i]? = some (.int (ns.getD i 0)) := by simp [hi]
  refine ⟨⟨_, _, s.seq hl, e⟩, fun x H' y => ⟨y.1, ?_⟩⟩
  have := y.2 _ (s.seq hl)
  rw [e] at this
  exact (Option.some.inj this).symm
theorem lc_tupP (f : Int → V) (hl : SqT K H1 a (ns.map V.int)) (hn : ns.length ≤ sizeLine) (hacc : H1 acc = none) (hs : ∀ n H (N : V → Hp → Prop), Same H1 H → N (f n) H → te (some (.int n) :: fr) H N)
    (hd : ∀ H2, Same H1 H2 → H2 acc = some (.lst (ns.map f)) → Q (.ref acc) H2) : LcW (Itt K a) (gName 0) te (none :: fr) H1 acc Q := by
  refine lc_pure (n := ns.length) (val := fun i => .int (ns.getD i 0)) (fun i => f (ns.getD i 0)) hn hacc (fun i H hi s => ?_) (fun H s => ⟨_, s.tup hl, by simp⟩) (fun i H N hi s kN => hs _ H N s kN) (fun H2 s h => hd H2 s (by rw [h, range_map]))
  have e : (ns.map V.int)[i]? = some (.int (ns.getD i 0)) := by simp [hi]
  refine ⟨⟨_, _, s.tup hl, e⟩, fun x H' y => ⟨y.1, ?_⟩⟩
  have := y.2 _ (s.tup hl)
  rw [e] at this
  exact (Option.some.inj this).symm
end
section
variable {X : Cx}
end
end L2
namespace L2
open PySem PySem.Spec PyProof.Rows
end L2

namespace L2
open PySem PySem.Spec PyProof.Rows

/-! ### lists of pairs as tables -/
section
variable {κ : Type} [DecidableEq κ]
def valV (kvs : List (κ × V)) (k : κ) : Option V := (kvs.find? fun kv => decide (kv.1 = k)).map (·.2)
theorem valV_nil {k : κ} : valV ([] : List (κ × V)) k = none := rfl
end


/-! ### a tracked dict, its keys ints and texts or tuples of these -/
section
variable {P : Program} {w : World} {H : Hp} {h : Heap} {a : Addr}
end

section
variable {X : Cx} {pins : List (Addr × Obj)} {σ : St} {H : Hp} {s : Shared} {a : Addr} {y v : V} {u r : Value} {o : Option V} {A : Around} {E : Value → Shared → Prop}

theorem Inv.big (I : Inv X pins σ H s) : sysModules < s.heap.objs.size := by
  have h : mainGlobals < s.heap.objs.size := (I.mod.glob.keeps I.bk).lt
  exact Nat.lt_trans (by decide) h

end

section
variable {X : Cx} {pins : List (Addr × Obj)} {σ : St} {H : Hp} {s : Shared} {a : Addr} {kvs : List (Key × V)} {k : Key} {u : Value} {A : Around} {E : Value → Shared → Prop}
end


/-! ### readings and rules -/
section
variable {X : Cx} {o i e value : Expr} {pos pos' tpos : Pos} {td ty tv : TE}
end


/-! ### displays -/
theorem dk_empty {P : Program} {w : World} {H : Hp} (h : Heap) (hb : sysModules < h.objs.size) : ObjOk P w H (h.push { cls := .type "dict", data := .dict #[] }) h.objs.size (.dK []) :=
  ⟨Nat.zero_le _, beq_eq_false_iff_ne.mpr (Ne.symm (Nat.ne_of_lt hb)), [], .nil, Heap.DictOf.new h⟩
def tDNewK : TE := fun _ H Q => ∀ p, H p = none → Q (.ref p) (upd H p (.dK []))
section
variable {X : Cx} {pos : Pos}
theorem pe_dnewK : PE X (.Dict [] [] pos) tDNewK := fun pins s σ H Q I h =>
  wpAny_Dict_empty ⟨.ref s.heap.objs.size, _, I.laid (a := s.heap.objs.size) (o := .dK []) (t' := s.toks) (fun _ _ q => Heap.get?_push_of_some _ q) (Nat.le_refl _) (dk_empty s.heap I.big), rfl, h _ (I.hok.fresh (Nat.le_refl _))⟩
end

/-! ### methods -/
section
variable {X : Cx} {pins : List (Addr × Obj)} {σ : St} {H : Hp} {s : Shared} {a : Addr} {y d : V} {u r : Value} {o : Option V} {A : Around} {E : Value → Shared → Prop}
end

section
variable {X : Cx} {o e f : Expr} {apos cpos : Pos} {td ty tx : TE}
end

end L2

set_option maxHeartbeats 4000000
/-! boards: lists of tuples of ints; products of great ints; all(..) of bools; the script's weight -/
namespace L2
open PySem PySem.Spec PyProof.Rows
def CMulG (i j : Int) : Prop := ∃ a b, Sz a i ∧ Sz b j ∧ a + b ≤ 100000000
theorem CMulG.ok {i j : Int} (h : CMulG i j) : IntMulOk i j := by
  obtain ⟨a, b, h1, h2, h3⟩ := h
  have e1 := h1.bits
  have e2 := h2.bits
  unfold IntMulOk
  rw [show Builtin.Int.intTooBig (Builtin.Int.intBits i + Builtin.Int.intBits j) = false by
    unfold Builtin.Int.intTooBig
    have : bitsLine = 134217728 := rfl
    rw [this]
    exact decide_eq_false (by omega)]
  simp
section
variable {X : Cx}
theorem op_mulG : OpR X (binaryOp .Mult) (rI CMulG fun i j => .int (i * j)) := opI fun _ _ _ _ _ _ _ hc q => mul_int q hc.ok
theorem call_allL (hc : X.calm = true) : CallR X (.builtin "all") (fun xs H Q => ∃ (p : Addr) (bs : List Bool), xs = [.ref p] ∧ SqL X.K H p (bs.map V.bl) ∧ Q (.bl (bs.all id)) H) := by
  intro pins s σ H xs us Q I r h
  obtain ⟨p, bs, rfl, hq, q⟩ := h
  obtain ⟨u, rfl, ru⟩ := r.one
  cases ru
  obtain ⟨its, rv, pl, hz⟩ := I.list hq
  have hlen : its.length = bs.length := by rw [← rv.length, List.length_map]
  refine call_all_walk (wpAny_pyIter_list pl.isList ?_)
  have W := Walks.list (prog := X.prog) (w := X.w) (A := X.A.in1) (show X.A.in1.handled = none from I.ok.hd hc) s.heap.objs.size p (by
    obtain ⟨o, e, _⟩ := pl.isList
    exact Nat.ne_of_lt (Heap.lt_size e)) its.toArray
  refine ⟨s.heap.objs.size, _, _, _, _, _, fun i => bs.getD i false, rfl, W, ⟨⟨_, Heap.get?_push_size _ rfl, rfl, rfl⟩, pl.isList.push _⟩, ?_, fun h' tk hk => ?_⟩
  · intro i v s' Q' E' hv hQ
    have hv' : its[i]? = some v := by simpa using hv
    have hi : i < bs.length := by rw [← hlen]; exact (List.getElem?_eq_some_iff.mp hv').1
    obtain ⟨u, hu, ru⟩ := rv.get (show (bs.map V.bl)[i]? = some (.bl (bs.getD i false)) by simp [hi])
    rw [hv'] at hu
    cases hu
    cases ru
    exact wpAny_truthy_bool hQ
  · have e : (List.range its.toArray.size).all (fun i => bs.getD i false) = bs.all id := by
      rw [List.size_toArray, hlen, Bool.eq_iff_iff, List.all_eq_true, List.all_eq_true]
      constructor
      · intro z b hb
        obtain ⟨i, hi, rfl⟩ := List.mem_iff_getElem.mp hb
        have := z i (List.mem_range.mpr hi)
        simpa [hi] using this
      · intro z i hi
        have hi' : i < bs.length := List.mem_range.mp hi
        have := z bs[i] (List.getElem_mem hi')
        simpa [hi'] using this
    rw [e]
    refine ⟨.bl (bs.all id), H, ?_, rfl, q⟩
    exact I.kept (t' := tk) fun b o eo => hk b o (by simp; exact Nat.ne_of_lt (Heap.lt_size eo)) (Heap.get?_push_of_some _ eo)
end
/-! ### == of lists of tuples of ints -/
section
variable {P : Program} {w : World} {H : Hp} {h : Heap}
def Rows5 (H : Hp) : List Addr → List (List Int) → Prop := Paired fun p ns => H p = some (.tup (ns.map V.int))
theorem readsAll_rows (ok : HOk P w H h) : ∀ {ps : List Addr} {xs : List (List Int)} {us : List Value}, Rows5 H ps xs → Vals (ps.map V.ref) us → ∃ as, ReadsAll h us (xs.map fun ns => PyData.tuple (ns.map PyData.int)) as
  | [], [], us, .nil, r => by cases r; exact ⟨[], .nil⟩
  | p :: ps, ns :: xs, us, .cons e r, rv => by
    cases rv with
    | cons ru rr =>
      cases ru
      obtain ⟨as, ha⟩ := readsAll_rows ok r rr
      obtain ⟨_, its, rv', ht⟩ := (show ObjOk P w H h p (.tup (ns.map V.int)) from ok p _ e)
      exact ⟨_, .cons (reads_tupI ht (intsAre_of rv')) ha⟩
end
section
variable {X : Cx}
theorem canLay_rows : ∀ xs : List (List Int), PyData.canLayAll0 (xs.map fun ns => PyData.tuple (ns.map PyData.int)) = true
  | [] => by simp [PyData.canLayAll0]
  | n :: r => by simp [PyData.canLayAll0, PyData.canLay0, canLay_rows r, PySem.W.canLayAll0_ints n]
theorem depth_rows : ∀ xs : List (List Int), PyData.depthAll (xs.map fun ns => PyData.tuple (ns.map PyData.int)) ≤ 2
  | [] => by simp [PyData.depthAll]
  | n :: r => by
    have h1 := depth_rows r
    have h2 := PySem.W.depthAll_ints n
    simp only [List.map_cons, PyData.depthAll, PyData.depth]
    omega
theorem shaped_rows (xs : List (List Int)) : SeqAt.shaped (.list (xs.map fun ns => PyData.tuple (ns.map PyData.int))) = true := by
  have h2 : PyData.depth (.list (xs.map fun ns => PyData.tuple (ns.map PyData.int))) ≤ 64 := by
    have := depth_rows xs
    simp only [PyData.depth]
    omega
  show (PyData.canLay0 _ && decide _) = true
  rw [Bool.and_eq_true]
  exact ⟨by simp only [PyData.canLay0]; exact canLay_rows xs, decide_eq_true h2⟩
theorem noMix_rows : ∀ xs ys : List (List Int), SeqAt.noMixAll (xs.map fun ns => PyData.tuple (ns.map PyData.int)) (ys.map fun ns => PyData.tuple (ns.map PyData.int)) = true
  | [], [] => by simp [SeqAt.noMixAll]
  | [], _ :: _ => by simp [SeqAt.noMixAll]
  | _ :: _, [] => by simp [SeqAt.noMixAll]
  | n :: r, m :: q => by
    simp only [List.map_cons, SeqAt.noMixAll, SeqAt.noMix, Bool.and_eq_true]
    exact ⟨PySem.W.noMix_ints n m, noMix_rows r q⟩
theorem same_rows : ∀ xs ys : List (List Int), PySem.Spec.sameAll (xs.map fun ns => PyData.tuple (ns.map PyData.int)) (ys.map fun ns => PyData.tuple (ns.map PyData.int)) = decide (xs = ys)
  | [], [] => by simp [PySem.Spec.sameAll]
  | [], _ :: _ => by simp [PySem.Spec.sameAll]
  | _ :: _, [] => by simp [PySem.Spec.sameAll]
  | n :: r, m :: q => by
    simp only [List.map_cons, PySem.Spec.sameAll, PySem.Spec.same, PySem.W.same_ints, same_rows r q]
    by_cases e : n = m <;> simp [e]
def rEqLT (neg : Bool) : R2 := fun x y H Q => ∃ (a b : Addr) (ps qs : List Addr) (xs ys : List (List Int)), x = .ref a ∧ y = .ref b ∧ H a = some (.lst (ps.map V.ref)) ∧ H b = some (.lst (qs.map V.ref)) ∧ Rows5 H ps xs ∧ Rows5 H qs ys ∧ Q (.bl (if neg then !decide (xs = ys) else decide (xs = ys))) H
theorem reads_board {pins : List (Addr × Obj)} {σ : St} {H : Hp} {s : Shared} (I : Inv X pins σ H s) {a : Addr} {ps : List Addr} {xs : List (List Int)} (h : H a = some (.lst (ps.map V.ref))) (r : Rows5 H ps xs) : ∃ as, Reads s.heap (.ref a) (.list (xs.map fun ns => PyData.tuple (ns.map PyData.int))) as := by
  obtain ⟨its, rv, pl, _⟩ := I.list (SqL.of h)
  obtain ⟨as, ha⟩ := readsAll_rows I.hok r rv
  obtain ⟨o, ho, hc, n, hd⟩ := pl.isList
  exact ⟨_, Reads.list ho hc hd (by simpa using ha)⟩
theorem op_neLT (hu : X.A.units + 64 < cLine) : OpR X (compareOp .NotEq) (rEqLT true) := by
  intro pins s σ H x y v u Q I rx ry h
  obtain ⟨a, b, ps, qs, xs, ys, rfl, rfl, h1, h2, r1, r2, q⟩ := h
  cases rx; cases ry
  obtain ⟨as, ra⟩ := reads_board I h1 r1
  obtain ⟨bs, rb⟩ := reads_board I h2 r2
  refine ne_dataH_same ra rb (shaped_rows xs) (shaped_rows ys) hu (by simp only [SeqAt.noMix]; exact noMix_rows xs ys) ⟨.bl (!decide (xs = ys)), H, I, ?_, q⟩
  show _ = _
  simp only [PySem.Spec.same]
  rw [same_rows]
end
section
variable {X : Cx} {scope : Scope} {Nc : List Str} {ex : List Addr} {pins : List (Addr × Obj)} {s : Shared} {H : Hp}
theorem op_eqTIC (hu : X.A.units + 64 < cLine) : OpR (cxLc X scope Nc ex pins s H) (compareOp .Eq) (rEqTI X.K false) := op_eqTI hu
end
end L2

set_option maxHeartbeats 4000000
/-! the script's ints weigh 2 ^ 20 places at most -/
namespace L2
open PySem PySem.W PySem.Calls PySem.Spec PyProof.Rows
def Light (ns : List Int) : Prop := ∀ n ∈ ns, Sz 1048576 n
theorem light_weight : ∀ {ns : List Int} {W : Nat}, WData.weightAll (ns.map WData.int) ≤ W → ∀ n ∈ ns, Sz W n
  | m :: r, W, h, n, hn => by
    simp only [List.map_cons, WData.weightAll, WData.weight] at h
    rcases List.mem_cons.mp hn with rfl | hn
    · unfold Sz
      by_cases z : n = 0
      · subst z; exact Nat.two_pow_pos _
      · have zb : (n == 0) = false := by simpa using z
        rw [zb, if_neg (by simp)] at h
        have h1 : n.natAbs.log2 < W := by omega
        exact (Nat.log2_lt (by omega)).mp h1
    · exact light_weight (W := W) (by omega) n hn
theorem light_of {ns : List Int} (h : WData.layableAll [WData.list (ns.map WData.int)] = true) : Light ns := by
  simp only [WData.layableAll, List.all_cons, List.all_nil, Bool.and_true, WData.layable, Bool.and_eq_true, decide_eq_true_eq] at h
  exact light_weight (W := 1048576) (by have := h.2; simpa [WData.weight] using this)
theorem attach_light {l : OpenLaw} {n : Nat} {q : Program} {loose : List Str} {XP : (Str → Option Value) → Heap → Prop} {YP : World → Heap → Prop} {d : DefRec}
    (hn : l.most = some n) (hdf : d.params.defaults = [])
    (call : ∀ (w : World) (s₀ s₁ : Shared) (mg mb : Str → Option Value) (fa : Addr) (o : Obj) (pm cd doc : Value) (a : Addr) (vs : List Value) (ns : List Int), Light ns →
      Ground q loose [] XP w s₀ mg mb s₁.heap → YP w s₁.heap →
      s₁.heap.get? fa = some o → o.data = .func (docDef d.name d.params d.body d.scope pm cd doc) → s₁.heap.CodeRec cd d.name → mg d.name = some (.ref fa) →
      s₁.heap.get? a = some { cls := .type "list", data := .seq vs.toArray } → IntsAre vs ns → ns.length ≤ n → s₁.gens = #[] →
      codeAny (model l.prog w) callerA (.call (.ref fa) ⟨[.ref a], []⟩) (fun r s' => r = .ok (.ret (.bool true)) ∧ OldK s₁.heap s'.heap ∧ s'.os = s₁.os ∧ AllBare s'.gens) s₁) :
    WalkO q loose XP YP l.row.toRowW d [] (fun f vs => PySem.call f vs) := by
  intro w s₀ s₁ mg mb G Y fa o pm cd doc dV kV ho hd hcd hD hmg hg args vals as hpre hlay hrd hwl hlo
  obtain rfl : dV = .none := Dflts.none hD hdf
  obtain rfl : kV = .none := Dflts.noKw hD
  obtain ⟨a, vs, ns, rfl, rfl, hobj, hints, hlen⟩ := Att.script_of hn hpre hwl
  refine enter_call (codeAny_mono (call w s₀ s₁ mg mb fa o pm cd doc a vs ns (light_of hlay) G Y ho (fd_plain hd) hcd hmg hobj hints hlen hg) fun r s' hq => ?_)
  obtain ⟨rfl, h2, h3, h4⟩ := hq
  exact ⟨.inl ⟨.bool true, .bool true, [], rfl, fun _ => rfl, .bool true, Att.post_true l _, fun _ => ⟨List.Pairwise.nil, fun _ hm => (nomatch hm)⟩⟩, h2, h3, h4⟩
theorem walk_light {l : PySem.W.OpenLaw} {n k : Nat} {q : Program} {loose : List Str} {XP : (Str → Option Value) → Heap → Prop} {YP : World → Heap → Prop} {d : DefRec} {K : Params → PySem.W.Frag} {CX : World → CXT} {sp : World → Sp} {x : Str}
    (hn : l.most = some n) (hn2 : n ≤ sizeLine) (hdf : d.params.defaults = []) (hr : Room k callerA)
    (hY : ∀ (w : World) (h : Heap), YP w h → (K w.params).In h)
    (F : ∀ (w : World) (mg : Str → Option Value) (fa : Addr) (h : Heap), (K w.params).In h → h.Ns mainGlobals mg → mg d.name = some (.ref fa) →
      ∃ fd : FuncData, (∀ (s : Shared) (u : Value), BindsTo s fd ⟨[u], []⟩ [(x, u)]) ∧
        ∀ base : Heap, (K w.params).In base → base.Ns mainGlobals mg → FnOk l.prog w (K w.params) mg base (CX w) k fa fd [x] (sp w))
    (hsp : ∀ (w : World) (H : Hp) (a : Addr) (ns : List Int), ns.length ≤ n → Light ns → SqL (K w.params) H a (ns.map V.int) → sp w [.ref a] H (fun v _ => v = .bl true) fun _ _ _ => False)
    (hCX : ∀ (w : World) (H : Hp) (s : Shared) (e : Value) (s' : Shared), CX w [] H s (fun _ _ _ => False) e s' → False) :
    PySem.W.WalkO q loose XP YP l.row.toRowW d [] (fun f vs => PySem.call f vs) := by
  refine attach_light hn hdf fun w s₀ s₁ mg mb fa o pm cd doc a vs ns lt G Y ho hd hcd hmg hobj hints hlen hg => ?_
  have KX := hY w _ Y
  obtain ⟨fd, hb, hF⟩ := F w mg fa _ KX G.T.g hmg
  exact law_call KX G.T.g G.T.b G.T.builtins G.T.nolimit hg hobj hints (Nat.le_trans hlen hn2) hr hF hb (fun H _ hS => hsp w H a ns hlen lt hS) fun H e s' => hCX w H s₁ e s'
end L2

set_option maxHeartbeats 4000000
/-! what the laws over boards share: amounts, boards, and what their helpers promise -/
namespace Ba
open PySem PySem.Spec PyProof.Rows L2 Am Pc
abbrev T5 (a b c d h : Int) : HO := .tup [.int a, .int b, .int c, .int d, .int h]
structure Red (a b c d h x y z u g : Int) : Prop where
  amt : Amt x y z u g
  same : Same4 a b c d h x y z u g
  s1 : x.natAbs ≤ a.natAbs
  s2 : y.natAbs ≤ b.natAbs
  s3 : z.natAbs ≤ c.natAbs
  s4 : u.natAbs ≤ d.natAbs
  le : g ≤ h
structure Sz4 (n : Nat) (a b c d : Int) : Prop where
  z1 : Sz n a
  z2 : Sz n b
  z3 : Sz n c
  z4 : Sz n d
theorem Red.sz {a b c d h x y z u g : Int} {n : Nat} (r : Red a b c d h x y z u g) (s : Sz4 n a b c d) : Sz4 n x y z u := ⟨s.z1.le r.s1, s.z2.le r.s2, s.z3.le r.s3, s.z4.le r.s4⟩
theorem Sz4.mono {m n : Nat} {a b c d : Int} (s : Sz4 m a b c d) (h : m ≤ n) : Sz4 n a b c d := ⟨s.z1.mono h, s.z2.mono h, s.z3.mono h, s.z4.mono h⟩
def rot : Nat → Int × Int × Int × Int → Int × Int × Int × Int
  | 0, v => v
  | n + 1, v => let (a, b, c, d) := rot n v; (-d, a, b, c)
abbrev T4 (v : Int × Int × Int × Int) (h : Int) : HO := T5 v.1 v.2.1 v.2.2.1 v.2.2.2 h
abbrev A5 := (Int × Int × Int × Int) × Int
abbrev tA (x : A5) : HO := T4 x.1 x.2
def spin (x : A5) (k : Int) : A5 := (rot (k % 8).toNat x.1, x.2)
structure Ok5 (n : Nat) (m : Int) (x : A5) : Prop where
  sz : Sz4 n x.1.1 x.1.2.1 x.1.2.2.1 x.1.2.2.2
  amt : Amt x.1.1 x.1.2.1 x.1.2.2.1 x.1.2.2.2 x.2
  le : x.2 ≤ m
theorem Ok5.mono {n n' : Nat} {m m' : Int} {x : A5} (o : Ok5 n m x) (h : n ≤ n') (h' : m ≤ m') : Ok5 n' m' x := ⟨o.sz.mono h, o.amt, Int.le_trans o.le h'⟩
theorem ok_rot {n : Nat} {m : Int} {v : Int × Int × Int × Int} {h : Int} (o : Ok5 n m (v, h)) : ∀ k, Ok5 n m (rot k v, h)
  | 0 => o
  | k + 1 => by
    have := ok_rot o k
    show Ok5 n m ((-(rot k v).2.2.2, (rot k v).1, (rot k v).2.1, (rot k v).2.2.1), h)
    refine ⟨⟨this.sz.z4.neg, this.sz.z1, this.sz.z2, this.sz.z3⟩, ⟨this.amt.nn, ?_⟩, this.le⟩
    have o : h = 0 ∨ (rot k v).1 % 2 = 1 ∨ (rot k v).2.1 % 2 = 1 ∨ (rot k v).2.2.1 % 2 = 1 ∨ (rot k v).2.2.2 % 2 = 1 := this.amt.odd
    show h = 0 ∨ (-(rot k v).2.2.2) % 2 = 1 ∨ (rot k v).1 % 2 = 1 ∨ (rot k v).2.1 % 2 = 1 ∨ (rot k v).2.2.1 % 2 = 1
    omega
def Vals5 (H : Hp) (ps : List Addr) (f : Nat → A5) : Prop := ∀ i p, ps[i]? = some p → H p = some (tA (f i))
theorem Vals5.same {H H' : Hp} {ps : List Addr} {f : Nat → A5} (v : Vals5 H ps f) (s : Same H H') : Vals5 H' ps f := fun i p e => s _ _ (v i p e)
def l5 (x : A5) : List Int := [x.1.1, x.1.2.1, x.1.2.2.1, x.1.2.2.2, x.2]
theorem rows_of {H : Hp} : ∀ {ps : List Addr} {f : Nat → A5}, Vals5 H ps f → Rows5 H ps ((List.range ps.length).map fun i => l5 (f i))
  | [], f, _ => .nil
  | p :: ps, f, v => by
    rw [List.length_cons, List.range_succ_eq_map, List.map_cons, List.map_map]
    exact .cons (v 0 p rfl) (rows_of (ps := ps) (f := fun i => f (i + 1)) fun i q e => v (i + 1) q e)
structure Hv (a b c d h x y z u g : Int) : Prop where
  same : Same4 a b c d h x y z u g
  s1 : x.natAbs ≤ a.natAbs
  s2 : y.natAbs ≤ b.natAbs
  s3 : z.natAbs ≤ c.natAbs
  s4 : u.natAbs ≤ d.natAbs
  le : g ≤ h
  nn : 0 ≤ g
theorem Hv.red {a b c d h x y z u g : Int} (v : Hv a b c d h x y z u g) (o : g = 0 ∨ x % 2 = 1 ∨ y % 2 = 1 ∨ z % 2 = 1 ∨ u % 2 = 1) : Red a b c d h x y z u g := ⟨⟨v.nn, o⟩, v.same, v.s1, v.s2, v.s3, v.s4, v.le⟩
theorem half_eq {x g : Int} (hx : x % 2 = 0) (hg : 0 < g) : Eq2 x g (x / 2) (g - 1) := by
  unfold Eq2
  have e : p2 g = p2 (g - 1) * 2 := by rw [p2_sub (a := g) (b := 1) (by decide) (by omega)]; rfl
  rw [e]
  have : x = 2 * (x / 2) := by omega
  generalize x / 2 = y at *
  subst this
  grind
theorem Hv.half {a b c d h x y z u g : Int} (v : Hv a b c d h x y z u g) (hg : 0 < g) (e : x % 2 = 0 ∧ y % 2 = 0 ∧ z % 2 = 0 ∧ u % 2 = 0) : Hv a b c d h (x / 2) (y / 2) (z / 2) (u / 2) (g - 1) := by
  obtain ⟨e1, e2, e3, e4⟩ := e
  have := v.s1; have := v.s2; have := v.s3; have := v.s4; have := v.le
  exact ⟨v.same.trans ⟨half_eq e1 hg, half_eq e2 hg, half_eq e3 hg, half_eq e4 hg⟩, by omega, by omega, by omega, by omega, by omega, by omega⟩
theorem all4 {a b c d : Int} : (([a, b, c, d].map fun n => decide (V.int (n % 2) = V.int 0)).all id = true) ↔ (a % 2 = 0 ∧ b % 2 = 0 ∧ c % 2 = 0 ∧ d % 2 = 0) := by
  have e : ∀ n : Int, decide (V.int (n % 2) = V.int 0) = true ↔ n % 2 = 0 := fun n => by rw [decide_eq_true_iff]; exact ⟨fun z => V.int.inj z, fun z => by rw [z]⟩
  simp only [List.map_cons, List.map_nil, List.all_cons, List.all_nil, id, Bool.and_true, Bool.and_eq_true, e]
abbrev M3 (q f s : Nat) : HO := .tup [.int q, .int f, .int s]
def cell (ns : List Int) (i : Int) : Int := if i < ns.length then ns.getD i.toNat 0 else 0
theorem cell_sz {ns : List Int} (h : Light ns) (i : Int) : Sz 1048576 (cell ns i) := by
  unfold cell
  have z0 : Sz 1048576 0 := by unfold Sz; exact Nat.two_pow_pos _
  split
  · rw [List.getD_eq_getElem?_getD]
    cases e : ns[i.toNat]? with
    | none => exact z0
    | some n => exact h n (List.mem_of_getElem? e)
  · exact z0
def spOnce : Sp := fun vs H Q _ => ∃ (p : Addr) (a b c d h : Int), vs = [.ref p] ∧ H p = some (T5 a b c d h) ∧ ∀ (r : Addr) (H' : Hp), Same H H' → H' r = some (T5 (-d) a b c h) → Q (.ref r) H'
def spSpin : Sp := fun vs H Q _ => ∃ (p : Addr) (x : A5) (k : Int), vs = [.ref p, .int k] ∧ H p = some (tA x) ∧ ∀ (r : Addr) (H' : Hp), Same H H' → H' r = some (tA (spin x k)) → Q (.ref r) H'
def spOnes : Sp := fun vs H Q _ => ∃ n : Nat, vs = [.int n] ∧ Q (.int (pc n)) H
def spCell (K : PySem.W.Frag) : Sp := fun vs H Q _ => ∃ (a : Addr) (ns : List Int) (i : Int), vs = [.ref a, .int i] ∧ SqL K H a (ns.map V.int) ∧ 0 ≤ i ∧ Q (.int (cell ns i)) H
def spWhole : Sp := fun vs H Q _ => ∃ i : Int, vs = [.int i] ∧ Q (.bl true) H
def spCells : Sp := fun vs H Q _ => ∃ c : Int, vs = [.int c] ∧ ∀ n : Nat, 1 ≤ n → n ≤ 6 → Q (.int n) H
def spLow : Sp := fun vs H Q _ => ∃ (l : Addr) (a b c d h : Int), vs = [.ref l, .int h] ∧ H l = some (.lst ([a, b, c, d].map V.int)) ∧ 0 ≤ h ∧ ∀ (p : Addr) (H' : Hp) (x y z u g : Int), Same H H' → H' p = some (T5 x y z u g) → Red a b c d h x y z u g → Q (.ref p) H'
def spAmtBy : Sp := fun vs H Q _ => ∃ c : Int, vs = [.int c] ∧ Sz 1048600 c ∧ ∀ (p : Addr) (H' : Hp) (x : A5), Same H H' → H' p = some (tA x) → Ok5 100 40 x → Q (.ref p) H'
def spMarkBy : Sp := fun vs H Q _ => ∃ (c : Int) (n : Nat), vs = [.int c, .int n] ∧ n ≤ 6 ∧ ∀ (r : Addr) (H' : Hp) (q f s : Nat), Same H H' → H' r = some (M3 q f s) → q < 4 → f < 2 ^ n → s < 2 ^ n → Q (.ref r) H'
theorem at_map {ns : List Int} {i : Int} (h0 : 0 ≤ i) (h : i < ns.length) : atI (ns.map V.int) i = some (.int (ns.getD i.toNat 0)) := by
  have hk : i.toNat < ns.length := by omega
  have ek : i = ((i.toNat : Nat) : Int) := by omega
  have q : atI (ns.map V.int) ((i.toNat : Nat) : Int) = some (.int ns[i.toNat]) := atI_nat (by rw [List.getElem?_map, List.getElem?_eq_getElem hk] <;> rfl)
  rw [← ek] at q
  rw [q, List.getD_eq_getElem?_getD, List.getElem?_eq_getElem hk]
  rfl
theorem at_refs {ps : List Addr} {i : Nat} {j : Int} (h : i < ps.length) (e : j = i) : atI (ps.map V.ref) j = some (.ref ps[i]) := by
  subst e
  exact atI_nat (by rw [List.getElem?_map, List.getElem?_eq_getElem h]; rfl)
theorem t2 : 2 ≤ sizeLine := by decide
theorem t3 : 3 ≤ sizeLine := by decide
theorem t4 : 4 ≤ sizeLine := by decide
theorem t5 : 5 ≤ sizeLine := by decide
theorem t64 {n : Nat} (h : n ≤ 64) : n ≤ sizeLine := Nat.le_trans h (by decide)
theorem pow6 {n : Nat} (h : n ≤ 6) : 2 ^ n ≤ 64 := Nat.le_trans (Nat.pow_le_pow_right (by decide) h) (by decide)
theorem ipow (n : Nat) : (1 : Int) * 2 ^ ((n : Int).toNat) = ((2 ^ n : Nat) : Int) := by simp
theorem sz1 : Sz 1 1 := by decide +kernel
theorem p_2 : (0 : Int) < 2 := by decide
theorem p_3 : (0 : Int) < 3 := by decide
theorem p_4 : (0 : Int) < 4 := by decide
theorem p_5 : (0 : Int) < 5 := by decide
theorem p_6 : (0 : Int) < 6 := by decide
theorem p_7 : (0 : Int) < 7 := by decide
theorem p_8 : (0 : Int) < 8 := by decide
theorem p_11 : (0 : Int) < 11 := by decide
theorem p_40 : (0 : Int) < 40 := by decide
theorem p_big : (0 : Int) < 2147483647 := by decide
theorem one_and {x y : Nat} : [V.int (Builtin.bitAnd (x : Int) y)] = [V.int ((x &&& y : Nat) : Int)] := by rw [and_i]
theorem kit_tt (K : PySem.W.Frag) : PySem.W.kitOne K (.type "tuple") (.type "tuple") = some true := by unfold PySem.W.kitOne; rw [if_pos (by decide)]
theorem kit_ll (K : PySem.W.Frag) : PySem.W.kitOne K (.type "list") (.type "list") = some true := by unfold PySem.W.kitOne; rw [if_pos (by decide)]
end Ba

set_option maxHeartbeats 4000000
namespace K25
open PySem PySem.Spec PyProof.Rows L2 Am Pc Ba
def top (i : Nat) : Stmt := PySem.Challenge.pw_spinboard_k25_boards_and_hefts.main.body.getD i (.Pass ⟨0, 0, 0, 0⟩)
structure Bs (mg : Str → Option Value) : Prop where
  isinstance : mg "isinstance" = none
  int : mg "int" = none
  bool : mg "bool" = none
  tuple : mg "tuple" = none
  list : mg "list" = none
  len : mg "len" = none
  range : mg "range" = none
  all : mg "all" = none
  any : mg "any" = none
  max : mg "max" = none
  min : mg "min" = none
  zip : mg "zip" = none
  set : mg "set" = none
  str : mg "str" = none
  enumerate : mg "enumerate" = none
  reversed : mg "reversed" = none
  abs : mg "abs" = none
section
variable {P : Program} {w : World} {K : PySem.W.Frag} {mg : Str → Option Value} {base : Heap} {k : Nat} {h : Heap}

theorem sc_cell : FnScope ["_law_script", "_law_k"] ["_law_script", "_law_k"] (defScope (top 43)) := ⟨rfl, rfl, rfl, by decide +kernel, rfl, by decide +kernel, by decide +kernel⟩
theorem ok_cell (F : FunAt K "_law_cell_at" (top 43) .none) (X : K.In h) (G : h.Ns mainGlobals mg) (B : Bs mg) : Cal P w K mg base (k + 1) "_law_cell_at" ["_law_script", "_law_k"] (spCell K) := by
  have nd := sc_cell.nd
  refine F.cal X G sc_cell (bnd2 fun _ _ _ _ _ _ _ _ => rfl) (fun vs H Q E h => ?_) (fun f cdv A outer s H vs Q E hr h => ?_)
  · obtain ⟨a, ns, i, rfl, _⟩ := h; rfl
  obtain ⟨a, ns, i, rfl, hS, h0, q⟩ := h
  refine ⟨_, (@pss_cons _ _ _ _ _ (ps_if (pt_cmpR op_lt (pv 1) (pe_callB call_len_seq rfl B.len PySem.boot_len (pa_cons (pv 0) pa_nil)) (nomark _))
      (@pss_one _ _ _ (ps_ret (pe_ix ix_list (pv 0) (pv 1) (fun _ _ => rfl))))
      pss_nil)
    (@pss_one _ _ _ (ps_ret pe_int))), ?_⟩
  try dsimp only [cxK]
  have hl : (ns.map V.int).length = ns.length := List.length_map _
  refine ⟨_, rfl, _, rfl, a, _, rfl, .inl hS, _, _, rfl, rfl, _, rfl, decI (fun c => ?_) (fun c => ?_)⟩
  · rw [hl] at c
    refine ⟨_, rfl, _, rfl, a, _, _, _, rfl, rfl, hS, at_map h0 c, ?_⟩
    unfold cell at q
    rw [if_pos c] at q
    exact q
  · rw [hl] at c
    unfold cell at q
    rw [if_neg c] at q
    exact q

theorem sc_whole : FnScope ["_law_found"] ["_law_found"] (defScope (top 44)) := ⟨rfl, rfl, rfl, by decide +kernel, rfl, by decide +kernel, by decide +kernel⟩
theorem ok_whole (F : FunAt K "_law_whole" (top 44) .none) (X : K.In h) (G : h.Ns mainGlobals mg) (B : Bs mg) : Cal P w K mg base (k + 1) "_law_whole" ["_law_found"] spWhole := by
  have nd := sc_whole.nd
  refine F.cal X G sc_whole (bnd1 fun _ _ _ _ _ _ _ => rfl) (fun vs H Q E h => ?_) (fun f cdv A outer s H vs Q E hr h => ?_)
  · obtain ⟨i, rfl, _⟩ := h; rfl
  obtain ⟨i, rfl, q⟩ := h
  refine ⟨_, (@pss_one _ _ _ (ps_ret (pe_and (pe_callB call_isinst rfl B.isinstance boot_isinstance (pa_cons (pv 0) (pa_cons (pe_bltn (v := .ty "int") rfl B.int boot_int rfl) pa_nil))) (pe_one (pe_not (pe_callB call_isinst rfl B.isinstance boot_isinstance (pa_cons (pv 0) (pa_cons (pe_bltn (v := .ty "bool") rfl B.bool boot_bool rfl) pa_nil)))))))), ?_⟩
  try dsimp only [cxK]
  refine ⟨_, rfl, _, _, _, true, rfl, TyOf.int i, kit_ii K, _, rfl, iteT ?_⟩
  exact ⟨_, rfl, _, _, _, false, rfl, TyOf.int i, kit_ib K, _, rfl, q⟩

theorem sc_cells : FnScope ["_law_cell"] ["_law_cell"] (defScope (top 45)) := ⟨rfl, rfl, rfl, by decide +kernel, rfl, by decide +kernel, by decide +kernel⟩
theorem ok_cells (F : FunAt K "_law_cells_by" (top 45) .none) (X : K.In h) (G : h.Ns mainGlobals mg) : Cal P w K mg base (k + 1) "_law_cells_by" ["_law_cell"] spCells := by
  have nd := sc_cells.nd
  refine F.cal X G sc_cells (bnd1 fun _ _ _ _ _ _ _ => rfl) (fun vs H Q E h => ?_) (fun f cdv A outer s H vs Q E hr h => ?_)
  · obtain ⟨c, rfl, _⟩ := h; rfl
  obtain ⟨c, rfl, q⟩ := h
  refine ⟨_, (@pss_cons _ _ _ _ _ (ps_if (pt_cmpR op_eq (pe_op op_mod (pe_op op_fdiv (pv 0) pe_int) pe_int) pe_int (nomark _))
      (@pss_one _ _ _ (ps_ret (pe_op op_add pe_int (pe_op op_mod (pe_op op_fdiv (pv 0) pe_int) pe_int))))
      pss_nil)
    (@pss_one _ _ _ (ps_ret (pe_op op_add pe_int (pe_op op_mod (pv 0) pe_int))))), ?_⟩
  try dsimp only [cxK]
  refine ⟨_, rfl, _, _, rfl, rfl, ⟨by decide, by decide⟩, _, _, rfl, rfl, p_8, rfl, _, rfl, eqI (fun _ => ?_) (fun _ => ?_)⟩
  · refine ⟨_, rfl, _, _, rfl, rfl, ⟨by decide, by decide⟩, _, _, rfl, rfl, p_3, _, _, rfl, rfl, ?_⟩
    have := q (4 + c / 24 % 3).toNat (by omega) (by omega)
    rw [show (((4 + c / 24 % 3).toNat : Nat) : Int) = 4 + c / 24 % 3 by omega] at this
    exact this
  · refine ⟨_, rfl, _, _, rfl, rfl, p_3, _, _, rfl, rfl, ?_⟩
    have := q (1 + c % 3).toNat (by omega) (by omega)
    rw [show (((1 + c % 3).toNat : Nat) : Int) = 1 + c % 3 by omega] at this
    exact this

theorem sc_low : FnScope ["_law_parts", "_law_h"] ["_law_parts", "_law_h"] (defScope (top 46)) := ⟨rfl, rfl, rfl, by decide +kernel, rfl, by decide +kernel, by decide +kernel⟩
theorem ok_low (F : FunAt K "_law_low" (top 46) .none) (X : K.In h) (G : h.Ns mainGlobals mg) (B : Bs mg) : Cal P w K mg base (k + 1) "_law_low" ["_law_parts", "_law_h"] spLow := by
  have nd := sc_low.nd
  refine F.cal X G sc_low (bnd2 fun _ _ _ _ _ _ _ _ => rfl) (fun vs H Q E h => ?_) (fun f cdv A outer s H vs Q E hr h => ?_)
  · obtain ⟨l, a, b, c, d, h, rfl, _⟩ := h; rfl
  obtain ⟨l, a, b, c, d, h, rfl, hl, h0, q⟩ := h
  refine ⟨_, (@pss_cons _ _ _ _ _ (ps_while PassesOwn.never (PW.pt (pw_and (pt_cmpR op_gt (pv 1) pe_int (nomark _)) (pw_and1 (pt_val (pe_callB (call_allL rfl) rfl B.all boot_all (pa_cons (pe_lc rfl (LcOk.of (Nc := ["_law_part"]) (mp := [none]) (by kernel_rfl)) (pi_list (pv 0)) (fun _ _ _ _ => (pg_name (i := 0) (show (["_law_part"] : List Str).Nodup by decide +kernel) rfl (Or.inl rfl))) (fun _ _ _ _ => (pe_cmpR op_eq (pe_op op_mod (pv 0) pe_int) pe_int (nomark _)))) pa_nil))))))
      (@pss_cons _ _ _ _ _ (ps_setLc (i := 0) rfl nd rfl rfl (LcOk.of (Nc := ["_law_part"]) (mp := [none]) (by kernel_rfl)) (pi_list (pv 0)) (fun _ _ _ _ => (pg_name (i := 0) (show (["_law_part"] : List Str).Nodup by decide +kernel) rfl (Or.inl rfl))) (fun _ _ _ _ => (pe_op op_fdiv (pv 0) pe_int)) rfl)
      (@pss_one _ _ _ (@ps_set _ _ 1 _ _ _ _ nd rfl (Or.inl rfl) (pe_op op_sub (pv 1) pe_int) rfl (.inl rfl)))))
    (@pss_one _ _ _ (ps_ret (@pe_tup _ _ _ _ _ (pa_cons (pe_ix ix_list (pv 0) pe_int (fun _ _ => rfl)) (pa_cons (pe_ix ix_list (pv 0) pe_int (fun _ _ => rfl)) (pa_cons (pe_ix ix_list (pv 0) pe_int (fun _ _ => rfl)) (pa_cons (pe_ix ix_list (pv 0) pe_int (fun _ _ => rfl)) (pa_cons (pv 1) pa_nil))))))))), ?_⟩
  try dsimp only [cxK]
  refine ⟨fun m σ H' => ∃ l' x y u v g, m = g.toNat ∧ σ = [some (.ref l'), some (.int g)] ∧ Same H H' ∧ H' l' = some (.lst ([x, y, u, v].map V.int)) ∧ Hv a b c d h x y u v g, ⟨_, l, a, b, c, d, h, rfl, rfl, Same.refl _, hl, ⟨rfl, rfl, rfl, rfl⟩, Nat.le_refl _, Nat.le_refl _, Nat.le_refl _, Nat.le_refl _, Int.le_refl _, h0⟩, ?_⟩
  rintro m σ H2 ⟨l', x, y, u, v, g, rfl, rfl, s2, l2, hv⟩
  refine ⟨_, rfl, _, _, rfl, rfl, _, rfl, decI (fun cg => ?_) (fun cg => ?_)⟩
  · refine ⟨_, rfl, l', rfl, ⟨_, SqL.of l2⟩, fun acc hacc => ?_⟩
    refine lc_listP (ns := [x, y, u, v]) (fr := []) (fun n => .bl (decide (V.int (n % 2) = V.int 0))) (SqL.of l2) t4 hacc (fun n H3 N _ kN => ?_) (fun H3 s3 a3 => ?_)
    · exact ⟨_, rfl, _, _, rfl, rfl, p_2, rfl, kN⟩
    refine ⟨acc, [x, y, u, v].map fun n => decide (V.int (n % 2) = V.int 0), rfl, SqL.of (by rw [a3]; rfl), _, rfl, blI (fun c => ?_) (fun c => ?_)⟩
    · have l3 := s3 _ _ l2
      refine ⟨_, fun _ _ h => h, _, rfl, l', rfl, ⟨_, SqL.of l3⟩, fun ac hac => ?_⟩
      refine lc_listP (ns := [x, y, u, v]) (fr := []) (fun n => .int (n / 2)) (SqL.of l3) t4 hac (fun n H3 N _ kN => ?_) (fun H4 s4 a4 => ?_)
      · exact ⟨_, rfl, _, _, rfl, rfl, ⟨by decide, by decide⟩, kN⟩
      refine ⟨_, rfl, _, _, rfl, rfl, ?_⟩
      refine ⟨(g - 1).toNat, by omega, ac, x / 2, y / 2, u / 2, v / 2, g - 1, rfl, rfl, s2.trans (s3.trans s4), a4, hv.half cg (all4.mp c)⟩
    · have l3 : SqL K H3 l' ([x, y, u, v].map V.int) := SqL.of (s3 _ _ l2)
      have o : x % 2 = 1 ∨ y % 2 = 1 ∨ u % 2 = 1 ∨ v % 2 = 1 := by
        have : ¬ (x % 2 = 0 ∧ y % 2 = 0 ∧ u % 2 = 0 ∧ v % 2 = 0) := fun z => by rw [all4.mpr z] at c; cases c
        omega
      refine ⟨_, rfl, l', _, _, _, rfl, rfl, l3, rfl, _, rfl, l', _, _, _, rfl, rfl, l3, rfl, _, rfl, l', _, _, _, rfl, rfl, l3, rfl, _, rfl, l', _, _, _, rfl, rfl, l3, rfl, _, rfl, t5, fun t ht => ?_⟩
      exact q t _ x y u v g (s2.trans (s3.trans (same_new ht _))) upd_same (hv.red (.inr o))
  · have l3 : SqL K H2 l' ([x, y, u, v].map V.int) := SqL.of l2
    refine ⟨_, rfl, l', _, _, _, rfl, rfl, l3, rfl, _, rfl, l', _, _, _, rfl, rfl, l3, rfl, _, rfl, l', _, _, _, rfl, rfl, l3, rfl, _, rfl, l', _, _, _, rfl, rfl, l3, rfl, _, rfl, t5, fun t ht => ?_⟩
    exact q t _ x y u v g (s2.trans (same_new ht _)) upd_same (hv.red (.inl (by have := hv.nn; omega)))

theorem sc_spin : FnScope ["_law_one", "_law_k", "_law_a", "_law_b", "_law_c", "_law_d", "_law_h", "_law_j"] ["_law_one", "_law_k"] (defScope (top 47)) := ⟨rfl, rfl, rfl, by decide +kernel, rfl, by decide +kernel, by decide +kernel⟩
theorem ok_spin (F : FunAt K "_law_spin" (top 47) .none) (X : K.In h) (G : h.Ns mainGlobals mg) (B : Bs mg) : Cal P w K mg base (k + 1) "_law_spin" ["_law_one", "_law_k"] spSpin := by
  have nd := sc_spin.nd
  refine F.cal X G sc_spin (bnd2 fun _ _ _ _ _ _ _ _ => rfl) (fun vs H Q E h => ?_) (fun f cdv A outer s H vs Q E hr h => ?_)
  · obtain ⟨p, x, k, rfl, _⟩ := h; rfl
  obtain ⟨p, x, k, rfl, hp, q⟩ := h
  refine ⟨_, (@pss_cons _ _ _ _ _ (ps_asg (pv 0) (pg_tup rfl (pgs_cons (pg_name (i := 2) nd rfl (Or.inl rfl)) (pgs_cons (pg_name (i := 3) nd rfl (Or.inl rfl)) (pgs_cons (pg_name (i := 4) nd rfl (Or.inl rfl)) (pgs_cons (pg_name (i := 5) nd rfl (Or.inl rfl)) (pgs_cons (pg_name (i := 6) nd rfl (Or.inl rfl)) pgs_nil)))))))
    (@pss_cons _ _ _ _ _ (ps_for PassesOwn.never rfl (pi_range1 rfl B.range (pa_cons (pe_op op_mod (pv 1) pe_int) pa_nil)) (pg_name (i := 7) nd rfl (Or.inl rfl))
      (@pss_one _ _ _ (ps_asg (@pe_tup _ _ _ _ _ (pa_cons (pe_un un_neg (pv 5)) (pa_cons (pv 2) (pa_cons (pv 3) (pa_cons (pv 4) pa_nil))))) (pg_tup rfl (pgs_cons (pg_name (i := 2) nd rfl (Or.inl rfl)) (pgs_cons (pg_name (i := 3) nd rfl (Or.inl rfl)) (pgs_cons (pg_name (i := 4) nd rfl (Or.inl rfl)) (pgs_cons (pg_name (i := 5) nd rfl (Or.inl rfl)) pgs_nil))))))))
    (@pss_one _ _ _ (ps_ret (@pe_tup _ _ _ _ _ (pa_cons (pv 2) (pa_cons (pv 3) (pa_cons (pv 4) (pa_cons (pv 5) (pa_cons (pv 6) pa_nil)))))))))), ?_⟩
  try dsimp only [cxK]
  refine ⟨_, rfl, p, _, rfl, SqT.of hp, rfl, _, _, rfl, _, _, rfl, _, _, rfl, _, _, rfl, _, _, rfl, rfl, ?_⟩
  refine ⟨_, rfl, _, _, rfl, rfl, p_8, _, rfl, by omega, by omega, for_range (n := (k % 8).toNat) (fun i σ H' => Same H H' ∧ ∃ v7, σ = [some (.ref p), some (.int k), some (.int (rot i x.1).1), some (.int (rot i x.1).2.1), some (.int (rot i x.1).2.2.1), some (.int (rot i x.1).2.2.2), some (.int x.2), v7]) ⟨Same.refl _, _, rfl⟩ ?_ ?_⟩
  · rintro i σ H' hi ⟨S', v7, rfl⟩
    refine ⟨_, rfl, _, rfl, _, rfl, _, rfl, _, rfl, t4, fun t ht => ⟨t, _, rfl, SqT.of upd_same, rfl, _, _, rfl, _, _, rfl, _, _, rfl, _, _, rfl, rfl, S'.trans (same_new ht _), _, rfl⟩⟩
  · rintro σ H' ⟨S', v7, rfl⟩
    exact ⟨_, rfl, _, rfl, _, rfl, _, rfl, _, rfl, t5, fun r hr => q r _ (S'.trans (same_new hr _)) upd_same⟩
end
end K25

set_option maxHeartbeats 4000000
namespace K25
open PySem PySem.Spec PyProof.Rows L2 Am Pc Ba
section
variable {P : Program} {w : World} {K : PySem.W.Frag} {mg : Str → Option Value} {base : Heap} {k : Nat} {h : Heap}

theorem sz_small {x : Int} (h1 : -16 < x) (h2 : x < 16) : Sz 100 x := Sz.mono (j := 5) (by unfold Sz; omega) (by decide)
theorem s_0 : Sz 100 0 := sz_small (by decide) (by decide)
theorem s_1 : Sz 100 1 := sz_small (by decide) (by decide)
theorem s_m : Sz 100 (-1) := sz_small (by decide) (by decide)
theorem forty : (0 : Int) ≤ 40 := by decide
theorem ten29 : (0 : Int) < 10 ^ (29 : Int).toNat := by decide +kernel
theorem sz_29 {x : Int} : Sz 100 (x % 10 ^ (29 : Int).toNat - 10 ^ (29 : Int).toNat / 2) := by
  have h1 := Int.emod_nonneg x (Int.ne_of_gt ten29)
  have h2 := Int.emod_lt_of_pos x ten29
  have h3 : (10 : Int) ^ (29 : Int).toNat < 2 ^ 100 := by decide +kernel
  generalize x % 10 ^ (29 : Int).toNat = y at *
  generalize (10 : Int) ^ (29 : Int).toNat = t at *
  unfold Sz
  omega
theorem sc_amtby : FnScope ["_law_cell", "_law_far", "_law_size", "_law_parts", "_law_k", "_law_half"] ["_law_cell"] (defScope (top 48)) := ⟨rfl, rfl, rfl, by decide +kernel, rfl, by decide +kernel, by decide +kernel⟩
theorem ok_amtby (F : FunAt K "_law_amount_by" (top 48) .none) (X : K.In h) (G : h.Ns mainGlobals mg) (B : Bs mg) (c__law_low : Cal P w K mg base k "_law_low" ["_law_parts", "_law_h"] spLow) (c__law_spin : Cal P w K mg base k "_law_spin" ["_law_one", "_law_k"] spSpin) :
    Cal P w K mg base (k + 1) "_law_amount_by" ["_law_cell"] spAmtBy := by
  have nd := sc_amtby.nd
  refine F.cal X G sc_amtby (bnd1 fun _ _ _ _ _ _ _ => rfl) (fun vs H Q E h => ?_) (fun f cdv A outer s H vs Q E hr h => ?_)
  · obtain ⟨c, rfl, _⟩ := h; rfl
  obtain ⟨c, rfl, szc, q⟩ := h
  refine ⟨_, (@pss_cut _ _ _ _ _ (@ps_set _ _ 1 _ _ _ _ nd rfl (Or.inl rfl) (pe_op op_mod (pe_op op_add (pe_op op_mulG (pe_op op_fdiv (pv 0) pe_int) (pe_op op_pow pe_int pe_int)) (pe_op op_pow pe_int pe_int)) (pe_op op_mulG (pe_op op_pow pe_int pe_int) (pe_op op_pow pe_int pe_int))) rfl (.inl rfl))
    (@pss_cons _ _ _ _ _ (@ps_set _ _ 2 _ _ _ _ nd rfl (Or.inl rfl) (pe_op op_pow pe_int pe_int) rfl (.inl rfl))
    (@pss_cons _ _ _ _ _ (ps_if (pt_cmpR op_eq (pe_op op_mod (pv 0) pe_int) pe_int (nomark _))
      (@pss_one _ _ _ (ps_ret (pe_cal c__law_spin hr rfl (pa_cons (@pe_tup _ _ _ _ _ (pa_cons pe_int (pa_cons pe_int (pa_cons pe_int (pa_cons pe_int (pa_cons pe_int pa_nil)))))) (pa_cons (pe_op op_mod (pv 1) pe_int) pa_nil)))))
      pss_nil)
    (@pss_cons _ _ _ _ _ (ps_if (pt_cmpR op_eq (pe_op op_mod (pv 0) pe_int) pe_int (nomark _))
      (@pss_cons _ _ _ _ _ (@ps_set _ _ 3 _ _ _ _ nd rfl (Or.inl rfl) (@pe_lst _ _ _ _ (pa_cons (pe_op op_sub (pe_op op_mod (pv 1) pe_int) pe_int) (pa_cons (pe_op op_sub (pe_op op_mod (pe_op op_fdiv (pv 1) pe_int) pe_int) pe_int) (pa_cons (pe_op op_sub (pe_op op_mod (pe_op op_fdiv (pv 1) pe_int) pe_int) pe_int) (pa_cons (pe_op op_sub (pe_op op_mod (pe_op op_fdiv (pv 1) pe_int) pe_int) pe_int) pa_nil))))) rfl (.inl rfl))
      (@pss_one _ _ _ (ps_ret (pe_cal c__law_low hr rfl (pa_cons (pv 3) (pa_cons (pe_op op_mod (pe_op op_fdiv (pv 1) pe_int) pe_int) pa_nil))))))
      pss_nil)
    (@pss_cons _ _ _ _ _ (ps_if (pt_cmpR op_eq (pe_op op_mod (pv 0) pe_int) pe_int (nomark _))
      (@pss_cons _ _ _ _ _ (@ps_set _ _ 3 _ _ _ _ nd rfl (Or.inl rfl) (@pe_lst _ _ _ _ pa_nil) rfl (.inl rfl))
      (@pss_cons _ _ _ _ _ (ps_for PassesOwn.never rfl (pi_range1 rfl B.range (pa_cons pe_int pa_nil)) (pg_name (i := 4) nd rfl (Or.inl rfl))
        (@pss_cons _ _ _ _ _ (ps_expr (pe_bm PySem.F.plainAttrs_list PySem.F.slot_list_append PySem.F.type_list_append mt_append (pv 3) (pa_cons (pe_op op_sub (pe_op op_mod (pv 1) (pv 2)) (pe_op op_fdiv (pv 2) pe_int)) pa_nil)))
        (@pss_one _ _ _ (@ps_set _ _ 1 _ _ _ _ nd rfl (Or.inl rfl) (pe_op op_fdivS (pv 1) (pv 2)) rfl (.inl rfl)))))
      (@pss_one _ _ _ (ps_ret (pe_cal c__law_low hr rfl (pa_cons (pv 3) (pa_cons (pe_op op_mod (pv 1) pe_int) pa_nil)))))))
      pss_nil)
    (@pss_cons _ _ _ _ _ (ps_if (pt_cmpR op_eq (pe_op op_mod (pv 0) pe_int) pe_int (nomark _))
      (@pss_cons _ _ _ _ _ (@ps_set _ _ 5 _ _ _ _ nd rfl (Or.inl rfl) (pe_op op_mod (pv 1) pe_int) rfl (.inl rfl))
      (@pss_one _ _ _ (ps_ret (pe_cal c__law_spin hr rfl (pa_cons (pe_ix ix_list (@pe_lst _ _ _ _ (pa_cons (@pe_tup _ _ _ _ _ (pa_cons pe_int (pa_cons pe_int (pa_cons pe_int (pa_cons pe_int (pa_cons (pv 5) pa_nil)))))) (pa_cons (@pe_tup _ _ _ _ _ (pa_cons pe_int (pa_cons pe_int (pa_cons pe_int (pa_cons (pe_un un_neg pe_int) (pa_cons (pe_op op_add (pv 5) pe_int) pa_nil)))))) pa_nil))) (pe_op op_mod (pe_op op_fdiv (pv 1) pe_int) pe_int) (fun _ _ => rfl)) (pa_cons (pe_op op_mod (pe_op op_fdiv (pv 1) pe_int) pe_int) pa_nil))))))
      pss_nil)
    (@pss_cons _ _ _ _ _ (ps_if (pt_cmpR op_eq (pe_op op_mod (pv 0) pe_int) pe_int (nomark _))
      (@pss_one _ _ _ (ps_ret (@pe_tup _ _ _ _ _ (pa_cons (pe_op op_sub (pe_op op_mod (pv 1) pe_int) pe_int) (pa_cons pe_int (pa_cons (pe_op op_sub (pe_op op_mod (pe_op op_fdiv (pv 1) pe_int) pe_int) pe_int) (pa_cons pe_int (pa_cons pe_int pa_nil))))))))
      pss_nil)
    (@pss_one _ _ _ (ps_ret (@pe_tup _ _ _ _ _ (pa_cons pe_int (pa_cons pe_int (pa_cons pe_int (pa_cons pe_int (pa_cons pe_int pa_nil))))))))))))))), ?_⟩
  try dsimp only [cxK]
  have pM : (0 : Int) < 10 ^ (60 : Int).toNat * 10 ^ (60 : Int).toNat := by decide +kernel
  have szc6 : Sz 1048600 (c / 6) := szc.le (by omega)
  have s63 : Sz 400 ((63 : Int) ^ (64 : Int).toNat) := by decide +kernel
  have s60 : Sz 200 ((10 : Int) ^ (60 : Int).toNat) := by decide +kernel
  refine ⟨fun σ' H' => H' = H ∧ ∃ F : Int, 0 ≤ F ∧ σ' = [some (.int c), some (.int F), none, none, none, none], ?_, ?_⟩
  · exact ⟨_, rfl, _, _, rfl, rfl, ⟨by decide, by decide⟩, _, _, rfl, rfl, ⟨by decide, by decide, by decide⟩, _, _, rfl, rfl, ⟨1048600, 400, szc6, s63, by decide⟩, _, _, rfl, rfl, ⟨by decide, by decide, by decide⟩, _, _, rfl, rfl, _, _, rfl, rfl, ⟨by decide, by decide, by decide⟩, _, _, rfl, rfl, ⟨by decide, by decide, by decide⟩, _, _, rfl, rfl, ⟨200, 200, s60, s60, by decide⟩, _, _, rfl, rfl, pM, rfl, _, Int.emod_nonneg _ (Int.ne_of_gt pM), rfl⟩
  rintro σ1 H1 ⟨rfl, F, F0, rfl⟩
  refine ⟨_, _, rfl, rfl, ⟨by decide, by decide, by decide⟩, ?_⟩
  have one : Ok5 100 40 ((1, 0, 0, 0), 0) := ⟨⟨s_1, s_0, s_0, s_0⟩, ⟨Int.le_refl 0, .inl rfl⟩, forty⟩
  refine ⟨_, rfl, _, _, rfl, rfl, p_6, rfl, _, rfl, eqI (fun _ => ?_) (fun _ => ?_)⟩
  · exact ⟨t5, fun t ht => ⟨_, rfl, _, _, rfl, rfl, p_8, t, ((1, 0, 0, 0), 0), _, rfl, upd_same, fun r H' s' e' => q r H' _ ((same_new ht _).trans s') e' (ok_rot one _)⟩⟩
  refine ⟨_, rfl, _, _, rfl, rfl, p_6, rfl, _, rfl, eqI (fun _ => ?_) (fun _ => ?_)⟩
  · refine ⟨_, rfl, _, _, rfl, rfl, p_7, _, _, rfl, rfl, _, rfl, _, _, rfl, rfl, ⟨by decide, by decide⟩, _, _, rfl, rfl, p_7, _, _, rfl, rfl, _, rfl, _, _, rfl, rfl, ⟨by decide, by decide⟩, _, _, rfl, rfl, p_7, _, _, rfl, rfl, _, rfl, _, _, rfl, rfl, ⟨by decide, by decide⟩, _, _, rfl, rfl, p_7, _, _, rfl, rfl, t4, fun l hl => ?_⟩
    refine ⟨_, rfl, _, rfl, _, _, rfl, rfl, ⟨by decide, by decide⟩, _, _, rfl, rfl, p_4, l, _, _, _, _, _, rfl, upd_same, (by show 0 ≤ F / 2401 % 4; omega), fun p H' x y z u g s' e' r' => q p H' ((x, y, z, u), g) ((same_new hl _).trans s') e' ⟨r'.sz ⟨?_, ?_, ?_, ?_⟩, r'.amt, ?_⟩⟩
    · show Sz 100 (F % 7 - 3)
      exact sz_small (by omega) (by omega)
    · show Sz 100 (F / 7 % 7 - 3)
      exact sz_small (by omega) (by omega)
    · show Sz 100 (F / 49 % 7 - 3)
      exact sz_small (by omega) (by omega)
    · show Sz 100 (F / 343 % 7 - 3)
      exact sz_small (by omega) (by omega)
    · have := r'.le
      have h2 : g ≤ F / 2401 % 4 := this
      show g ≤ 40
      omega
  refine ⟨_, rfl, _, _, rfl, rfl, p_6, rfl, _, rfl, eqI (fun _ => ?_) (fun _ => ?_)⟩
  · refine ⟨Nat.zero_le _, fun l hl => ?_⟩
    refine ⟨4, rfl, by decide, by decide, for_range (n := 4) (fun i σ H' => ∃ (xs : List Int) (g : Int) (v4 : Option V), xs.length = i ∧ (∀ x ∈ xs, Sz 100 x) ∧ 0 ≤ g ∧ Same H1 H' ∧ H' l = some (.lst (xs.map V.int)) ∧ σ = [some (.int c), some (.int g), some (.int (10 ^ (29 : Int).toNat)), some (.ref l), v4, none]) ⟨[], F, _, rfl, (fun _ z => by cases z), F0, same_new hl _, upd_same, rfl⟩ ?_ ?_⟩
    · rintro i σ H' hi ⟨xs, g, v4, hx, hz, g0, S', hl', rfl⟩
      refine ⟨_, rfl, .inl ⟨rfl, _, SqL.of hl'⟩, _, rfl, _, rfl, _, _, rfl, rfl, ten29, _, rfl, _, _, rfl, rfl, ⟨by decide, by decide⟩, _, _, rfl, rfl, l, _, _, rfl, rfl, hl', (by rw [List.length_map, hx]; exact Nat.lt_of_lt_of_le hi t4), ?_⟩
      refine ⟨_, rfl, _, rfl, _, _, rfl, rfl, ⟨Int.ne_of_gt ten29, by decide +kernel⟩, ⟨xs ++ [g % 10 ^ (29 : Int).toNat - 10 ^ (29 : Int).toNat / 2], g.fdiv (10 ^ (29 : Int).toNat), some (.int (0 + i)), by simp [hx], ?_, Int.fdiv_nonneg g0 (Int.le_of_lt ten29), same_upd S' hl, ?_, rfl⟩⟩
      · intro x hx'
        rcases List.mem_append.mp hx' with z | z
        · exact hz x z
        · rw [List.mem_singleton.mp z]; exact sz_29
      · rw [upd_same, List.map_append]; rfl
    · rintro σ H' ⟨xs, g, v4, hx, hz, g0, S', hl', rfl⟩
      obtain ⟨x1, x2, x3, x4, rfl⟩ : ∃ x1 x2 x3 x4, xs = [x1, x2, x3, x4] := by
        match xs, hx with
        | [x1, x2, x3, x4], _ => exact ⟨x1, x2, x3, x4, rfl⟩
      refine ⟨_, rfl, _, rfl, _, _, rfl, rfl, p_40, l, x1, x2, x3, x4, _, rfl, hl', (by show 0 ≤ g % 40; omega), fun p H2 x y z u m s' e' r' => q p H2 ((x, y, z, u), m) (S'.trans s') e' ⟨r'.sz ⟨hz _ (by simp), hz _ (by simp), hz _ (by simp), hz _ (by simp)⟩, r'.amt, ?_⟩⟩
      have h2 : m ≤ g % 40 := r'.le
      show m ≤ 40
      omega
  refine ⟨_, rfl, _, _, rfl, rfl, p_6, rfl, _, rfl, eqI (fun _ => ?_) (fun _ => ?_)⟩
  · refine ⟨_, rfl, _, _, rfl, rfl, p_6, ?_⟩
    refine ⟨_, rfl, t5, fun r1 h1 => ?_⟩
    refine ⟨_, rfl, _, rfl, _, _, rfl, rfl, t5, fun r2 h2 => ⟨t2, fun l hl => ?_⟩⟩
    have f0 : 0 ≤ F % 6 ∧ F % 6 < 6 := by omega
    have z2 := same_new h2 (tA ((0, 1, 0, -1), F % 6 + 1))
    have z3 := same_new hl (.lst [.ref r1, .ref r2])
    have Y := (same_new h1 (tA ((1, 0, 0, 0), F % 6))).trans (z2.trans z3)
    have e1 := z3 _ _ (z2 _ _ (upd_same (H := H1) (a := r1) (o := tA ((1, 0, 0, 0), F % 6))))
    have e2 := z3 _ _ (upd_same (H := upd H1 r1 (tA ((1, 0, 0, 0), F % 6))) (a := r2) (o := tA ((0, 1, 0, -1), F % 6 + 1)))
    have o1 : Ok5 100 40 ((1, 0, 0, 0), F % 6) := ⟨one.sz, ⟨f0.1, .inr (.inl rfl)⟩, by show F % 6 ≤ 40; omega⟩
    have o2 : Ok5 100 40 ((0, 1, 0, -1), F % 6 + 1) := ⟨⟨s_0, s_1, s_0, s_m⟩, ⟨by show 0 ≤ F % 6 + 1; omega, .inr (.inr (.inl rfl))⟩, by show F % 6 + 1 ≤ 40; omega⟩
    have cc : F / 6 % 2 = 0 ∨ F / 6 % 2 = 1 := by omega
    rcases cc with cc | cc
    · exact ⟨_, rfl, _, _, rfl, rfl, ⟨by decide, by decide⟩, _, _, rfl, rfl, p_2, l, [.ref r1, .ref r2], _, .ref r1, rfl, rfl, SqL.of upd_same, (by show atI _ (F / 6 % 2) = _; rw [cc]; rfl), _, rfl, _, _, rfl, rfl, ⟨by decide, by decide⟩, _, _, rfl, rfl, p_8, r1, _, _, rfl, e1, fun r H' s' e' => q r H' _ (Y.trans s') e' (ok_rot o1 _)⟩
    · exact ⟨_, rfl, _, _, rfl, rfl, ⟨by decide, by decide⟩, _, _, rfl, rfl, p_2, l, [.ref r1, .ref r2], _, .ref r2, rfl, rfl, SqL.of upd_same, (by show atI _ (F / 6 % 2) = _; rw [cc]; rfl), _, rfl, _, _, rfl, rfl, ⟨by decide, by decide⟩, _, _, rfl, rfl, p_8, r2, _, _, rfl, e2, fun r H' s' e' => q r H' _ (Y.trans s') e' (ok_rot o2 _)⟩
  refine ⟨_, rfl, _, _, rfl, rfl, p_6, rfl, _, rfl, eqI (fun _ => ?_) (fun _ => ?_)⟩
  · refine ⟨_, rfl, _, _, rfl, rfl, p_11, _, _, rfl, rfl, _, rfl, _, _, rfl, rfl, ⟨by decide, by decide⟩, _, _, rfl, rfl, p_11, _, _, rfl, rfl, t5, fun t ht => ?_⟩
    refine q t _ ((F % 11 - 5, 0, F / 11 % 11 - 5, 0), 0) (same_new ht _) upd_same ⟨⟨?_, s_0, ?_, s_0⟩, ⟨Int.le_refl 0, .inl rfl⟩, forty⟩
    · exact sz_small (by show -16 < F % 11 - 5; omega) (by show F % 11 - 5 < 16; omega)
    · exact sz_small (by show -16 < F / 11 % 11 - 5; omega) (by show F / 11 % 11 - 5 < 16; omega)
  · exact ⟨t5, fun t ht => q t _ ((0, 0, 0, 0), 0) (same_new ht _) upd_same ⟨⟨s_0, s_0, s_0, s_0⟩, ⟨Int.le_refl 0, .inl rfl⟩, forty⟩⟩
end
end K25

set_option maxHeartbeats 4000000
namespace K25
open PySem PySem.Spec PyProof.Rows L2 Am Pc Ba
section
variable {P : Program} {w : World} {K : PySem.W.Frag} {mg : Str → Option Value} {base : Heap} {k : Nat} {h : Heap}

def spBoardByN (K : PySem.W.Frag) : Sp := fun vs H Q _ => ∃ (a : Addr) (ns : List Int) (i : Int) (c : Nat), vs = [.ref a, .int i, .int c] ∧ SqL K H a (ns.map V.int) ∧ Light ns ∧ 0 ≤ i ∧ 1 ≤ c ∧ c ≤ 6 ∧
  ∀ (l : Addr) (H' : Hp) (ps : List Addr) (f : Nat → A5), Same H H' → H' l = some (.lst (ps.map V.ref)) → ps.length = 2 ^ c → Vals5 H' ps f → (∀ i, Ok5 100 40 (f i)) → (∃ j, j < 2 ^ c ∧ l5 (f j) ≠ [0, 0, 0, 0, 0]) → Q (.ref l) H'
def Asked (f : Nat → A5) (i : Nat) (bs : List Bool) : Prop := bs = (List.range i).map fun j => decide (l5 (f j) = [0, 0, 0, 0, 0])
theorem Asked.nil {f : Nat → A5} : Asked f 0 [] := rfl
theorem Asked.snoc {f : Nat → A5} {i : Nat} {bs : List Bool} (h : Asked f i bs) : Asked f (i + 1) (bs ++ [decide (l5 (f i) = [0, 0, 0, 0, 0])]) := by
  unfold Asked at *
  rw [h, List.range_succ, List.map_append]
  rfl
theorem Asked.held {f : Nat → A5} {i : Nat} {bs : List Bool} (h : Asked f i bs) (b : bs.all id = false) : ∃ j, j < i ∧ l5 (f j) ≠ [0, 0, 0, 0, 0] := by
  unfold Asked at h
  subst h
  rw [List.all_eq_false] at b
  obtain ⟨x, hx, nx⟩ := b
  obtain ⟨j, hj, e⟩ := List.mem_map.mp hx
  refine ⟨j, List.mem_range.mp hj, fun z => nx ?_⟩
  rw [← e]
  exact decide_eq_true z
theorem Asked.held' {f : Nat → A5} {c : Nat} {ps : List Addr} {bs : List Bool} (h : Asked f (ps.map V.ref).length bs) (l : ps.length = 2 ^ c) (b : bs.all id = false) : ∃ j, j < 2 ^ c ∧ l5 (f j) ≠ [0, 0, 0, 0, 0] := by
  rw [List.length_map, l] at h
  exact h.held b
theorem vals_push {H H' : Hp} {ps : List Addr} {f : Nat → A5} {p : Addr} {x : A5} (v : Vals5 H ps f) (s : Same H H') (e : H' p = some (tA x)) : Vals5 H' (ps ++ [p]) (fun j => if j = ps.length then x else f j) := by
  intro i q hq
  by_cases hi : i < ps.length
  · rw [List.getElem?_append_left hi] at hq
    show H' q = some (tA (if i = ps.length then x else f i))
    rw [if_neg (by omega)]
    exact s _ _ (v i q hq)
  · rw [List.getElem?_append_right (by omega)] at hq
    have hi2 : i = ps.length := by
      have := (List.getElem?_eq_some_iff.mp hq).1
      simp at this
      omega
    subst hi2
    simp at hq
    subst hq
    show H' _ = some (tA (if ps.length = ps.length then x else f ps.length))
    rw [if_pos rfl]
    exact e
theorem vals_upd {H : Hp} {ps : List Addr} {f : Nat → A5} {l : Addr} {xs ys : List V} (v : Vals5 H ps f) (e : H l = some (.lst xs)) : Vals5 (upd H l (.lst ys)) ps f := fun i q hq => by
  have := v i q hq
  rw [upd_ne (ne_of this e (by intro z; cases z))]
  exact this
theorem vals_set {H : Hp} {ps : List Addr} {f : Nat → A5} {p : Addr} {x : A5} {j : Nat} (v : Vals5 H ps f) (e : H p = some (tA x)) : Vals5 H (ps.set j p) (fun i => if i = j then x else f i) := by
  intro i q hq
  by_cases hi : i = j
  · subst hi
    rw [List.getElem?_set_self'] at hq
    show H q = some (tA (if i = i then x else f i))
    rw [if_pos rfl]
    cases h : ps[i]? with
    | none => rw [h] at hq; cases hq
    | some r => rw [h] at hq; cases hq; exact e
  · rw [List.getElem?_set_ne (fun z => hi z.symm)] at hq
    show H q = some (tA (if i = j then x else f i))
    rw [if_neg hi]
    exact v i q hq
theorem sc_bdby : FnScope ["_law_script", "_law_at", "_law_cells", "_law_board", "_law_k"] ["_law_script", "_law_at", "_law_cells"] (defScope (top 49)) := ⟨rfl, rfl, rfl, by decide +kernel, rfl, by decide +kernel, by decide +kernel⟩
theorem ok_bdby (F : FunAt K "_law_board_by" (top 49) .none) (X : K.In h) (G : h.Ns mainGlobals mg) (B : Bs mg) (c__law_cell_at : Cal P w K mg base k "_law_cell_at" ["_law_script", "_law_k"] (spCell K)) (c__law_amount_by : Cal P w K mg base k "_law_amount_by" ["_law_cell"] spAmtBy) :
    Cal P w K mg base (k + 1) "_law_board_by" ["_law_script", "_law_at", "_law_cells"] (spBoardByN K) := by
  have nd := sc_bdby.nd
  refine F.cal X G sc_bdby (bnd3 fun _ _ _ _ _ _ _ _ _ => rfl) (fun vs H Q E h => ?_) (fun f cdv A outer s H vs Q E hr h => ?_)
  · obtain ⟨a, ns, i, c, rfl, _⟩ := h; rfl
  obtain ⟨a, ns, i, c, rfl, hS, lt, i0, c1, c6, q⟩ := h
  refine ⟨_, (@pss_cons _ _ _ _ _ (@ps_set _ _ 3 _ _ _ _ nd rfl (Or.inl rfl) (@pe_lst _ _ _ _ pa_nil) rfl (.inl rfl))
    (@pss_cons _ _ _ _ _ (ps_for PassesOwn.never rfl (pi_range1 rfl B.range (pa_cons (pe_op op_shlS pe_int (pv 2)) pa_nil)) (pg_name (i := 4) nd rfl (Or.inl rfl))
      (@pss_one _ _ _ (ps_expr (pe_bm PySem.F.plainAttrs_list PySem.F.slot_list_append PySem.F.type_list_append mt_append (pv 3) (pa_cons (pe_cal c__law_amount_by hr rfl (pa_cons (pe_op op_add (pe_cal c__law_cell_at hr rfl (pa_cons (pv 0) (pa_cons (pe_op op_add (pv 1) (pe_op op_mod (pv 4) pe_int)) pa_nil))) (pe_op op_mul (pe_op op_fdiv (pv 4) pe_int) pe_int)) pa_nil)) pa_nil)))))
    (@pss_cut _ _ _ _ _ (ps_if (pt_val (pe_callB (call_allL rfl) rfl B.all boot_all (pa_cons (pe_lc rfl (LcOk.of (Nc := ["_law_one"]) (mp := [none]) (by kernel_rfl)) (pi_list (pv 3)) (fun _ _ _ _ => (pg_name (i := 0) (show (["_law_one"] : List Str).Nodup by decide +kernel) rfl (Or.inl rfl))) (fun _ _ _ _ => (pe_cmpR (op_eqTIC hr.units) (pv 0) (@pe_tup _ _ _ _ _ (pa_cons pe_int (pa_cons pe_int (pa_cons pe_int (pa_cons pe_int (pa_cons pe_int pa_nil)))))) (nomark _)))) pa_nil)))
      (@pss_one _ _ _ (ps_asg (@pe_tup _ _ _ _ _ (pa_cons pe_int (pa_cons pe_int (pa_cons pe_int (pa_cons pe_int (pa_cons pe_int pa_nil)))))) (pg_sub (pv 3) (pe_op op_mod (pe_cal c__law_cell_at hr rfl (pa_cons (pv 0) (pa_cons (pv 1) pa_nil))) (pe_callB call_len_seq rfl B.len PySem.boot_len (pa_cons (pv 3) pa_nil))) set_list)))
      pss_nil)
    (@pss_one _ _ _ (ps_ret (pv 3)))))), ?_⟩
  try dsimp only [cxK]
  refine ⟨Nat.zero_le _, fun l hl => ?_⟩
  have hN : (1 : Int) * 2 ^ ((c : Int).toNat) = ((2 ^ c : Nat) : Int) := ipow c
  have hM : (1 * 2 ^ ((c : Int).toNat) : Int).toNat = 2 ^ c := by rw [hN, Int.toNat_natCast]
  have p6 := pow6 c6
  have p0 : 0 < 2 ^ c := Nat.two_pow_pos c
  refine ⟨_, rfl, _, _, rfl, rfl, ⟨1, sz1, by omega, by omega⟩, _, rfl, by rw [hN]; omega, ?_, for_range (n := (1 * 2 ^ ((c : Int).toNat) : Int).toNat) (fun j σ H' => ∃ (ps : List Addr) (f : Nat → A5) (v : Option V), Same H H' ∧ H' l = some (.lst (ps.map V.ref)) ∧ ps.length = j ∧ Vals5 H' ps f ∧ (∀ i, Ok5 100 40 (f i)) ∧ σ = [some (.ref a), some (.int i), some (.int c), some (.ref l), v])
    ⟨[], fun _ => ((0, 0, 0, 0), 0), _, same_new hl _, upd_same, rfl, (fun _ _ z => by cases z), (fun _ => ⟨⟨s_0, s_0, s_0, s_0⟩, ⟨Int.le_refl 0, .inl rfl⟩, forty⟩), rfl⟩ ?_ ?_⟩
  · rw [hN]; omega
  · rintro j σ H1 hj ⟨ps, f, v, S1, h1, hlen, hv, ok, rfl⟩
    rw [hM] at hj
    have hS1 := S1.seq hS
    have sz8 : Sz 1048600 (cell ns (i + (0 + (j : Int)) % 8) + (0 + (j : Int)) / 8 * 7919) := ((cell_sz lt _).add (show Sz 20 ((0 + (j : Int)) / 8 * 7919) by unfold Sz; omega)).mono (by decide)
    refine ⟨_, rfl, .inl ⟨rfl, _, SqL.of h1⟩, _, rfl, _, rfl, _, rfl, _, _, rfl, rfl, p_8, _, _, rfl, rfl, a, ns, _, rfl, hS1, (by show 0 ≤ i + (0 + (j : Int)) % 8; omega), _, rfl, _, _, rfl, rfl, ⟨by decide, by decide⟩, _, _, rfl, rfl, .inr ⟨by decide, by decide⟩, _, _, rfl, rfl, _, rfl, sz8, fun p H2 x s2 e2 o2 => ?_⟩
    refine ⟨l, _, _, rfl, rfl, s2 _ _ h1, (by rw [List.length_map, hlen]; exact Nat.lt_of_lt_of_le (Nat.lt_of_lt_of_le hj p6) (by decide)), ?_⟩
    refine ⟨ps ++ [p], fun i => if i = ps.length then x else f i, some (.int (0 + j)), same_upd (S1.trans s2) hl, ?_, by simp [hlen], vals_upd (vals_push hv s2 e2) (s2 _ _ h1), fun i => ?_, rfl⟩
    · rw [upd_same, List.map_append]; rfl
    · show Ok5 100 40 (if i = ps.length then x else f i)
      split
      · exact o2
      · exact ok i
  · rintro σ H1 ⟨ps, f, v, S1, h1, hlen, hv, ok, rfl⟩
    rw [hM] at hlen
    have hS1 := S1.seq hS
    refine ⟨fun σ' H' => ∃ (ps : List Addr) (f : Nat → A5), Same H H' ∧ H' l = some (.lst (ps.map V.ref)) ∧ ps.length = 2 ^ c ∧ Vals5 H' ps f ∧ (∀ i, Ok5 100 40 (f i)) ∧ (∃ j, j < 2 ^ c ∧ l5 (f j) ≠ [0, 0, 0, 0, 0]) ∧ σ' = [some (.ref a), some (.int i), some (.int c), some (.ref l), v], ?_, ?_⟩
    · refine ⟨_, rfl, l, rfl, ⟨_, SqL.of h1⟩, fun acc hacc => ?_⟩
      refine lc_list (K := K) (a := l) (xs := ps.map V.ref) (fr := []) (fun i ys H' => Same H1 H' ∧ H' acc = some (.lst ys) ∧ ∃ bs : List Bool, ys = bs.map V.bl ∧ Asked f i bs) (by rw [List.length_map, hlen]; exact t64 p6) ⟨same_new hacc _, upd_same, [], rfl, .nil⟩ (fun i ys H' p => SqL.of (p.1 _ _ h1)) ?_ ?_
      · rintro i x ys H2 N hx hy ⟨s2, a2, bs, rfl, as⟩ kN
        rw [List.getElem?_map] at hx
        obtain ⟨p, hp, rfl⟩ := Option.map_eq_some_iff.mp hx
        have ep := s2 _ _ (hv i p hp)
        refine ⟨_, rfl, t5, fun t ht => ⟨p, t, l5 (f i), [0, 0, 0, 0, 0], rfl, rfl, SqT.of (same_new ht _ _ _ ep), SqT.of upd_same, kN _ _ (same_new ht _ _ _ a2) ⟨same_upd (s2.trans (same_new ht _)) hacc, upd_same, bs ++ [decide (l5 (f i) = [0, 0, 0, 0, 0])], ?_, as.snoc⟩⟩⟩
        rw [List.map_append]; rfl
      · rintro ys H2 hl2 ⟨s2, a2, bs, rfl, as⟩
        refine ⟨acc, bs, rfl, SqL.of a2, _, rfl, blI (fun _ => ?_) (fun nb => ?_)⟩
        · refine ⟨t5, fun t ht => ?_⟩
          have S3 := s2.trans (same_new ht (tA ((1, 0, 0, 0), 0)))
          have h3 := S3 _ _ h1
          have lp : (0 : Int) < ((ps.map V.ref).length : Nat) := by rw [List.length_map, hlen]; omega
          have e0 := Int.emod_nonneg (cell ns i) (Int.ne_of_gt lp)
          have e1 := Int.emod_lt_of_pos (cell ns i) lp
          refine ⟨_, rfl, _, rfl, _, rfl, a, ns, _, rfl, S3.seq hS1, i0, _, rfl, l, _, rfl, .inl (SqL.of h3), _, _, rfl, rfl, lp, l, _, _, (cell ns i % ((ps.map V.ref).length : Nat)).toNat, rfl, rfl, h3, ?_, ?_⟩
          · unfold ixN
            rw [if_pos e0, if_pos e1]
          refine ⟨ps.set (cell ns i % ((ps.map V.ref).length : Nat)).toNat t, fun j => if j = (cell ns i % ((ps.map V.ref).length : Nat)).toNat then ((1, 0, 0, 0), 0) else f j, same_upd (S1.trans S3) hl, ?_, by simp [hlen], vals_upd (vals_set (hv.same S3) upd_same) h3, fun j => ?_, ⟨(cell ns i % ((ps.map V.ref).length : Nat)).toNat, by rw [List.length_map, hlen] at e1 e0 ⊢; omega, by show l5 (if _ = _ then _ else _) ≠ _; rw [if_pos rfl]; decide⟩, rfl⟩
          · rw [upd_same, List.map_set]
          · show Ok5 100 40 (if j = _ then _ else f j)
            split
            · exact ⟨⟨s_1, s_0, s_0, s_0⟩, ⟨Int.le_refl 0, .inl rfl⟩, forty⟩
            · exact ok j
        · exact ⟨ps, f, S1.trans s2, s2 _ _ h1, hlen, hv.same s2, ok, as.held' hlen nb, rfl⟩
    rintro σ' H2 ⟨qs, g, S2, h2, l2, v2, o2, nz, rfl⟩
    exact ⟨_, rfl, q l H2 qs g S2 h2 l2 v2 o2 nz⟩

end
end K25

set_option maxHeartbeats 4000000
namespace K25
open PySem PySem.Spec PyProof.Rows L2 Am Pc Ba
theorem cut54 : ¬ (HT.sIx 5 0 none = 0 ∧ HT.sIx 5 5 (some 4) = 5) := by decide
end K25

set_option maxHeartbeats 4000000
namespace K25
open PySem PySem.Spec PyProof.Rows L2 Am Pc Ba
def spHalf : Sp := fun vs H Q _ => ∃ a b c d h : Int, vs = [.int a, .int b, .int c, .int d, .int h] ∧ 0 ≤ h ∧ ∀ (p : Addr) (H' : Hp) (x y z u g : Int), Same H H' → H' p = some (T5 x y z u g) → Red a b c d h x y z u g → Q (.ref p) H'
def spSpun : Sp := fun vs H Q _ => ∃ (p : Addr) (a b c d h k : Int), vs = [.ref p, .int k] ∧ H p = some (T5 a b c d h) ∧ ∀ (r : Addr) (H' : Hp), Same H H' → H' r = some (T4 (rot (k % 8).toNat (a, b, c, d)) h) → Q (.ref r) H'
section
variable {P : Program} {w : World} {K : PySem.W.Frag} {mg : Str → Option Value} {base : Heap} {k : Nat} {h : Heap}
theorem sc_half : FnScope ["a", "b", "c", "d", "h", "places", "lowest", "less"] ["a", "b", "c", "d", "h"] (defScope (top 19)) := ⟨rfl, rfl, rfl, by decide +kernel, rfl, by decide +kernel, by decide +kernel⟩
theorem ok_half (F : FunAt K "halved_out" (top 19) .none) (X : K.In h) (G : h.Ns mainGlobals mg) (B : Bs mg) : Cal P w K mg base (k + 1) "halved_out" ["a", "b", "c", "d", "h"] spHalf := by
  have nd := sc_half.nd
  refine F.cal X G sc_half (bnd5 fun _ _ _ _ _ _ _ _ _ _ _ => rfl) (fun vs H Q E h => ?_) (fun f cdv A outer s H vs Q E hr h => ?_)
  · obtain ⟨a, b, c, d, h, rfl, _⟩ := h; rfl
  obtain ⟨a, b, c, d, h, rfl, h0, q⟩ := h
  refine ⟨_, (@pss_cons _ _ _ _ _ (@ps_set _ _ 5 _ _ _ _ nd rfl (Or.inl rfl) (pe_op op_or (pe_op op_or (pe_op op_or (pv 0) (pv 1)) (pv 2)) (pv 3)) rfl (.inl rfl))
    (@pss_cons _ _ _ _ _ (ps_if (pt_cmpR op_eq (pv 5) pe_int (nomark _))
      (@pss_one _ _ _ (ps_ret (@pe_tup _ _ _ _ _ (pa_cons pe_int (pa_cons pe_int (pa_cons pe_int (pa_cons pe_int (pa_cons pe_int pa_nil))))))))
      pss_nil)
    (@pss_cons _ _ _ _ _ (@ps_set _ _ 6 _ _ _ _ nd rfl (Or.inl rfl) (pe_op op_sub (pe_bm0 PySem.F.plainAttrs_int PySem.F.slot_int_bit_length PySem.F.type_int_bit_length mt_bitlen (pe_op op_and (pv 5) (pe_un un_neg (pv 5)))) pe_int) rfl (.inl rfl))
    (@pss_cons _ _ _ _ _ (@ps_set _ _ 7 _ _ _ _ nd rfl (Or.inl rfl) (pe_callB (call_min2 rfl) rfl B.min boot_min (pa_cons (pv 6) (pa_cons (pv 4) pa_nil))) rfl (.inl rfl))
    (@pss_one _ _ _ (ps_ret (@pe_tup _ _ _ _ _ (pa_cons (pe_op op_shr (pv 0) (pv 7)) (pa_cons (pe_op op_shr (pv 1) (pv 7)) (pa_cons (pe_op op_shr (pv 2) (pv 7)) (pa_cons (pe_op op_shr (pv 3) (pv 7)) (pa_cons (pe_op op_sub (pv 4) (pv 7)) pa_nil)))))))))))), ?_⟩
  try dsimp only [cxK]
  refine ⟨_, rfl, _, rfl, _, _, rfl, rfl, _, rfl, _, _, rfl, rfl, _, rfl, _, _, rfl, rfl, ?_⟩
  refine ⟨_, rfl, rfl, _, rfl, eqI (fun e => ?_) (fun e => ?_)⟩
  · obtain ⟨rfl, rfl, rfl, rfl⟩ := orAll_zero.mp e
    exact ⟨by show 5 ≤ sizeLine; decide, fun p hp => q p _ 0 0 0 0 0 (same_new hp _) upd_same ⟨⟨by omega, .inl rfl⟩, ⟨by simp [Eq2], by simp [Eq2], by simp [Eq2], by simp [Eq2]⟩, Nat.le_refl _, Nat.le_refl _, Nat.le_refl _, Nat.le_refl _, h0⟩⟩
  obtain ⟨v, ev, hd, hn⟩ := lowest e
  obtain ⟨m0, m1, ha, hs, b1, b2, b3, b4⟩ := halve h0 hd hn rfl
  have ev' : ((Builtin.Int.intBits (Builtin.bitAnd (Builtin.bitOr (Builtin.bitOr (Builtin.bitOr a b) c) d) (-(Builtin.bitOr (Builtin.bitOr (Builtin.bitOr a b) c) d))) : Nat) : Int) - 1 = v := ev
  refine ⟨_, rfl, _, rfl, _, rfl, _, _, rfl, rfl, rfl, _, rfl, rfl, _, _, rfl, rfl, ?_⟩
  show tSeq _ _ _ (List.set _ 6 (some (V.int (((Builtin.Int.intBits (Builtin.bitAnd (Builtin.bitOr (Builtin.bitOr (Builtin.bitOr a b) c) d) (-(Builtin.bitOr (Builtin.bitOr (Builtin.bitOr a b) c) d))) : Nat) : Int) - 1)))) H
  rw [ev']
  generalize hm : (if h < (v : Int) then h else (v : Int)) = m at *
  refine ⟨_, rfl, _, rfl, _, _, rfl, ?_⟩
  rw [hm]
  refine ⟨_, rfl, _, rfl, _, _, rfl, rfl, m0, _, rfl, _, rfl, _, _, rfl, rfl, m0, _, rfl, _, rfl, _, _, rfl, rfl, m0, _, rfl, _, rfl, _, _, rfl, rfl, m0, _, rfl, _, rfl, _, _, rfl, rfl, (by show 5 ≤ sizeLine; decide), fun p hp => ?_⟩
  exact q p _ _ _ _ _ _ (same_new hp _) upd_same ⟨ha, hs, b1, b2, b3, b4, by omega⟩
theorem sc_once : FnScope ["one"] ["one"] (defScope (top 23)) := ⟨rfl, rfl, rfl, by decide +kernel, rfl, by decide +kernel, by decide +kernel⟩
theorem ok_once (F : FunAt K "spun_once" (top 23) .none) (X : K.In h) (G : h.Ns mainGlobals mg) : Cal P w K mg base (k + 1) "spun_once" ["one"] spOnce := by
  have nd := sc_once.nd
  refine F.cal X G sc_once (bnd1 fun _ _ _ _ _ _ _ => rfl) (fun vs H Q E h => ?_) (fun f cdv A outer s H vs Q E hr h => ?_)
  · obtain ⟨p, a, b, c, d, h, rfl, _⟩ := h; rfl
  obtain ⟨p, a, b, c, d, h, rfl, hp, q⟩ := h
  have S : SqT K H p [.int a, .int b, .int c, .int d, .int h] := SqT.of hp
  refine ⟨_, (@pss_one _ _ _ (ps_ret (@pe_tup _ _ _ _ _ (pa_cons (pe_un un_neg (pe_ix ix_tup (pv 0) pe_int (fun _ _ => rfl))) (pa_cons (pe_ix ix_tup (pv 0) pe_int (fun _ _ => rfl)) (pa_cons (pe_ix ix_tup (pv 0) pe_int (fun _ _ => rfl)) (pa_cons (pe_ix ix_tup (pv 0) pe_int (fun _ _ => rfl)) (pa_cons (pe_ix ix_tup (pv 0) pe_int (fun _ _ => rfl)) pa_nil)))))))), ?_⟩
  try dsimp only [cxK]
  refine ⟨_, rfl, p, _, _, _, rfl, rfl, S, rfl, _, rfl, _, rfl, p, _, _, _, rfl, rfl, S, rfl, _, rfl, p, _, _, _, rfl, rfl, S, rfl, _, rfl, p, _, _, _, rfl, rfl, S, rfl, _, rfl, p, _, _, _, rfl, rfl, S, rfl, (by show 5 ≤ sizeLine; decide), fun r hr => ?_⟩
  exact q r _ (same_new hr _) upd_same
theorem sc_spun : FnScope ["one", "k", "turning", "step"] ["one", "k"] (defScope (top 22)) := ⟨rfl, rfl, rfl, by decide +kernel, rfl, by decide +kernel, by decide +kernel⟩
theorem ok_spun (F : FunAt K "spun" (top 22) .none) (X : K.In h) (G : h.Ns mainGlobals mg) (B : Bs mg) (c_spun_once : Cal P w K mg base k "spun_once" ["one"] spOnce) : Cal P w K mg base (k + 1) "spun" ["one", "k"] spSpun := by
  have nd := sc_spun.nd
  refine F.cal X G sc_spun (bnd2 fun _ _ _ _ _ _ _ _ => rfl) (fun vs H Q E h => ?_) (fun f cdv A outer s H vs Q E hr h => ?_)
  · obtain ⟨p, a, b, c, d, h, k, rfl, _⟩ := h; rfl
  obtain ⟨p, a, b, c, d, h, j, rfl, hp, q⟩ := h
  have S : SqT K H p [.int a, .int b, .int c, .int d, .int h] := SqT.of hp
  refine ⟨_, (@pss_cons _ _ _ _ _ (@ps_set _ _ 2 _ _ _ _ nd rfl (Or.inl rfl) (pv 0) rfl (.inl rfl))
    (@pss_cons _ _ _ _ _ (ps_for PassesOwn.never rfl (pi_range1 rfl B.range (pa_cons (pe_op op_mod (pv 1) pe_int) pa_nil)) (pg_name (i := 3) nd rfl (Or.inl rfl))
      (@pss_one _ _ _ (@ps_set _ _ 2 _ _ _ _ nd rfl (Or.inl rfl) (pe_cal c_spun_once hr rfl (pa_cons (pv 2) pa_nil)) rfl (.inl rfl))))
    (@pss_one _ _ _ (ps_ret (pv 2))))), ?_⟩
  try dsimp only [cxK]
  have j0 := Int.emod_nonneg j (show (8 : Int) ≠ 0 by decide)
  have j1 := Int.emod_lt_of_pos j (show (0 : Int) < 8 by decide)
  refine ⟨_, rfl, _, rfl, _, _, rfl, rfl, (by show (0 : Int) < 8; decide), _, rfl, (by omega), (by omega), for_range (n := (j % 8).toNat) (fun i σ H' => Same H H' ∧ ∃ t v, σ = [some (.ref p), some (.int j), some (.ref t), v] ∧ H' t = some (T4 (rot i (a, b, c, d)) h)) ⟨Same.refl _, p, none, rfl, hp⟩ ?_ ?_⟩
  · rintro i σ H2 hi ⟨s2, t, v, rfl, ht⟩
    refine ⟨_, rfl, t, _, _, _, _, _, rfl, ht, fun r H' s3 e3 => ?_⟩
    exact ⟨s2.trans s3, r, _, rfl, e3⟩
  · rintro σ H2 ⟨s2, t, v, rfl, ht⟩
    exact ⟨_, rfl, q t H2 s2 ht⟩
end
end K25

set_option maxHeartbeats 4000000
namespace K25
open PySem PySem.Spec PyProof.Rows L2 Am Pc Ba
structure Sum (a b c d h a' b' c' d' h' x y z u g : Int) : Prop where
  amt : Amt x y z u g
  same : Same4 (a * p2 h' + a' * p2 h) (b * p2 h' + b' * p2 h) (c * p2 h' + c' * p2 h) (d * p2 h' + d' * p2 h) (h + h') x y z u g
  le : g ≤ max h h'
theorem sum_eq {a a' h h' m : Int} (h0 : 0 ≤ h) (h0' : 0 ≤ h') (hm : h ≤ m) (hm' : h' ≤ m) : Eq2 (a * p2 h' + a' * p2 h) (h + h') (a * 2 ^ (m - h).toNat + a' * 2 ^ (m - h').toNat) m := by
  unfold Eq2
  rw [p2_add h0 h0']
  show _ = (a * p2 (m - h) + a' * p2 (m - h')) * (p2 h * p2 h')
  have e1 := p2_sub h0 hm
  have e2 := p2_sub h0' hm'
  have l1 : (a * p2 h' + a' * p2 h) * p2 m = a * p2 h' * p2 m + a' * p2 h * p2 m := Int.add_mul ..
  rw [l1, show a * p2 h' * p2 m = a * p2 h' * (p2 (m - h) * p2 h) by rw [← e1], show a' * p2 h * p2 m = a' * p2 h * (p2 (m - h') * p2 h') by rw [← e2]]
  grind
theorem sz_pow (n : Nat) : Sz (n + 1) ((2 : Int) ^ n) := by
  unfold Sz
  rw [Int.natAbs_pow]
  exact Nat.pow_lt_pow_right (by decide) (Nat.lt_succ_self n)
theorem sum_sz {a a' h h' m : Int} {n N : Nat} (hm : m - h ≤ h' ∧ m - h' ≤ h) (z : Sz n a) (z' : Sz n a') (hN : n + h.toNat + h'.toNat + 2 ≤ N) : Sz N (a * 2 ^ (m - h).toNat + a' * 2 ^ (m - h').toNat) := by
  refine ((z.mul (sz_pow (m - h).toNat)).add (z'.mul (sz_pow (m - h').toNat))).mono ?_
  omega
structure In2 (n : Nat) (vs : List V) (H : Hp) (p q : Addr) (a b c d h a' b' c' d' h' : Int) : Prop where
  vs : vs = [.ref p, .ref q]
  one : H p = some (T5 a b c d h)
  other : H q = some (T5 a' b' c' d' h')
  h0 : 0 ≤ h
  h0' : 0 ≤ h'
  hh : h + h' ≤ 40000
  hn : n ≤ 500000
  z : Sz4 n a b c d
  z' : Sz4 n a' b' c' d'
structure In2K (K : PySem.W.Frag) (n : Nat) (vs : List V) (H : Hp) (p q : Addr) (a b c d h a' b' c' d' h' : Int) : Prop where
  vs : vs = [.ref p, .ref q]
  one : SqT K H p [.int a, .int b, .int c, .int d, .int h]
  other : H q = some (T5 a' b' c' d' h')
  h0 : 0 ≤ h
  h0' : 0 ≤ h'
  hh : h + h' ≤ 40000
  hn : n ≤ 500000
  z : Sz4 n a b c d
  z' : Sz4 n a' b' c' d'
def spPlusK (K : PySem.W.Frag) : Sp := fun vs H Q _ => ∃ n p q a b c d h a' b' c' d' h', In2K K n vs H p q a b c d h a' b' c' d' h' ∧ ∀ (r : Addr) (H' : Hp) (x y z u g : Int), Same H H' → H' r = some (T5 x y z u g) → Sum a b c d h a' b' c' d' h' x y z u g → Sz4 (n + h.toNat + h'.toNat + 2) x y z u → Q (.ref r) H'
section
variable {P : Program} {w : World} {K : PySem.W.Frag} {mg : Str → Option Value} {base : Heap} {k : Nat} {h : Heap}
theorem sc_plus : FnScope ["one", "other", "h", "up", "other_up", "sums"] ["one", "other"] (defScope (top 20)) := ⟨rfl, rfl, rfl, by decide +kernel, rfl, by decide +kernel, by decide +kernel⟩
theorem ok_plus (F : FunAt K "plus" (top 20) .none) (X : K.In h) (G : h.Ns mainGlobals mg) (B : Bs mg) (c_halved_out : Cal P w K mg base k "halved_out" ["a", "b", "c", "d", "h"] spHalf) : Cal P w K mg base (k + 1) "plus" ["one", "other"] (spPlusK K) := by
  have nd := sc_plus.nd
  refine F.cal X G sc_plus (bnd2 fun _ _ _ _ _ _ _ _ => rfl) (fun vs H Q E h => ?_) (fun f cdv A outer s H vs Q E hr h => ?_)
  · obtain ⟨n, p, q, a, b, c, d, h, a', b', c', d', h', I, _⟩ := h; rw [I.vs]; rfl
  obtain ⟨n, p, q, a, b, c, d, h, a', b', c', d', h', ⟨rfl, e1, e2, h0, h0', hh, hn, z, z'⟩, kq⟩ := h
  have S : SqT K H p [.int a, .int b, .int c, .int d, .int h] := e1
  have S' : SqT K H q [.int a', .int b', .int c', .int d', .int h'] := SqT.of e2
  refine ⟨_, (@pss_cons _ _ _ _ _ (@ps_set _ _ 2 _ _ _ _ nd rfl (Or.inl rfl) (pe_callB (call_max2 rfl) rfl B.max boot_max (pa_cons (pe_ix ix_tup (pv 0) pe_int (fun _ _ => rfl)) (pa_cons (pe_ix ix_tup (pv 1) pe_int (fun _ _ => rfl)) pa_nil))) rfl (.inl rfl))
    (@pss_cons _ _ _ _ _ (@ps_set _ _ 3 _ _ _ _ nd rfl (Or.inr rfl) (pe_op op_sub (pv 2) (pe_ix ix_tup (pv 0) pe_int (fun _ _ => rfl))) rfl (.inl rfl))
    (@pss_cons _ _ _ _ _ (@ps_set _ _ 4 _ _ _ _ nd rfl (Or.inr rfl) (pe_op op_sub (pv 2) (pe_ix ix_tup (pv 1) pe_int (fun _ _ => rfl))) rfl (.inl rfl))
    (@pss_cons _ _ _ _ _ (ps_setLc (i := 5) rfl nd rfl rfl (LcOk.of (Nc := ["x", "y", "up", "other_up"]) (mp := [none, none, some 3, some 4]) (by kernel_rfl)) (pi_zip true true rfl B.zip (pa_cons (pe_slice sl_tup (pv 0) po_none (po_some pe_int)) (pa_cons (pe_slice sl_tup (pv 1) po_none (po_some pe_int)) pa_nil))) (fun _ _ _ _ => (pg_pairC rfl (show (["x", "y", "up", "other_up"] : List Str).Nodup by decide +kernel) rfl rfl rfl rfl)) (fun _ _ _ _ => (pe_op op_add (pe_op op_shlS (pv 0) (pv 2)) (pe_op op_shlS (pv 1) (pv 3)))) rfl)
    (@pss_one _ _ _ (ps_ret (pe_cal c_halved_out hr rfl (pa_cons (pe_ix ix_list (pv 5) pe_int (fun _ _ => rfl)) (pa_cons (pe_ix ix_list (pv 5) pe_int (fun _ _ => rfl)) (pa_cons (pe_ix ix_list (pv 5) pe_int (fun _ _ => rfl)) (pa_cons (pe_ix ix_list (pv 5) pe_int (fun _ _ => rfl)) (pa_cons (pv 2) pa_nil)))))))))))), ?_⟩
  try dsimp only [cxK]
  refine ⟨_, rfl, p, _, _, _, rfl, rfl, S, rfl, _, rfl, q, _, _, _, rfl, rfl, S', rfl, _, _, rfl, ?_⟩
  generalize hm : (if h' > h then h' else h) = m
  have m1 : h ≤ m := by rw [← hm]; split <;> omega
  have m2 : h' ≤ m := by rw [← hm]; split <;> omega
  have m3 : m - h ≤ h' ∧ m - h' ≤ h ∧ m ≤ h + h' := by rw [← hm]; split <;> omega
  refine ⟨_, rfl, _, rfl, p, _, _, _, rfl, rfl, S, rfl, _, _, rfl, rfl, ?_⟩
  refine ⟨_, rfl, _, rfl, q, _, _, _, rfl, rfl, S', rfl, _, _, rfl, rfl, ?_⟩
  refine ⟨_, rfl, 4, rfl, p, _, rfl, S, cut54, fun l1 hl1 => ?_⟩
  refine ⟨_, rfl, 4, rfl, q, _, rfl, (same_new hl1 _).tup S', cut54, fun l2 hl2 => ?_⟩
  have s2 : Same H (upd (upd H l1 (.tup ([a, b, c, d].map V.int))) l2 (.tup ([a', b', c', d'].map V.int))) := (same_new hl1 _).trans (same_new hl2 _)
  refine ⟨l1, l2, [a, b, c, d].map V.int, [a', b', c', d'].map V.int, rfl, (same_new hl2 _).tup (SqT.of upd_same), SqT.of upd_same, fun acc hacc => ?_⟩
  refine lc_zipI (K := K) (ns := [a, b, c, d]) (ms := [a', b', c', d']) (fr := [some (.int (m - h)), some (.int (m - h'))]) (fun x y => x * 2 ^ (m - h).toNat + y * 2 ^ (m - h').toNat) rfl (show 4 ≤ sizeLine by decide) ((same_new hl2 _).tup (SqT.of upd_same)) (SqT.of upd_same) hacc
    (fun ha hQ => ⟨_, _, rfl, SqT.of ha, rfl, _, _, rfl, _, _, rfl, rfl, hQ⟩) ?_ ?_
  · intro x y H2 N hx hy kN
    have zx : Sz n x := by
      simp only [List.mem_cons, List.not_mem_nil, or_false] at hx
      rcases hx with rfl | rfl | rfl | rfl
      · exact z.z1
      · exact z.z2
      · exact z.z3
      · exact z.z4
    have zy : Sz n y := by
      simp only [List.mem_cons, List.not_mem_nil, or_false] at hy
      rcases hy with rfl | rfl | rfl | rfl
      · exact z'.z1
      · exact z'.z2
      · exact z'.z3
      · exact z'.z4
    exact ⟨_, rfl, _, rfl, _, _, rfl, rfl, ⟨n, zx, (by omega), (by omega)⟩, _, rfl, _, rfl, _, _, rfl, rfl, ⟨n, zy, (by omega), (by omega)⟩, _, _, rfl, rfl, kN⟩
  intro H2 s3 a3
  have SA : SqL K H2 acc ((List.zipWith (fun x y => x * 2 ^ (m - h).toNat + y * 2 ^ (m - h').toNat) [a, b, c, d] [a', b', c', d']).map V.int) := SqL.of a3
  refine ⟨_, rfl, acc, _, _, _, rfl, rfl, SA, rfl, _, rfl, acc, _, _, _, rfl, rfl, SA, rfl, _, rfl, acc, _, _, _, rfl, rfl, SA, rfl, _, rfl, acc, _, _, _, rfl, rfl, SA, rfl, _, rfl, _, _, _, _, _, rfl, (by show 0 ≤ m; omega), fun r H' x y v u g s4 e4 r4 => ?_⟩
  have hN : n + h.toNat + h'.toNat + 2 ≤ n + h.toNat + h'.toNat + 2 := Nat.le_refl _
  have m4 : m - h ≤ h' ∧ m - h' ≤ h := ⟨m3.1, m3.2.1⟩
  refine kq r H' x y v u g (s2.trans (s3.trans s4)) e4 ⟨r4.amt, Same4.trans ⟨sum_eq h0 h0' m1 m2, sum_eq h0 h0' m1 m2, sum_eq h0 h0' m1 m2, sum_eq h0 h0' m1 m2⟩ r4.same, by have := r4.le; rw [← hm] at this; split at this <;> omega⟩ (r4.sz ⟨?_, ?_, ?_, ?_⟩)
  · exact sum_sz m4 z.z1 z'.z1 hN
  · exact sum_sz m4 z.z2 z'.z2 hN
  · exact sum_sz m4 z.z3 z'.z3 hN
  · exact sum_sz m4 z.z4 z'.z4 hN
end
end K25

set_option maxHeartbeats 4000000
/-! sorted(d) of a dict whose keys are ints -/
namespace L2
open PySem PySem.Spec PyProof.Rows
end L2

set_option maxHeartbeats 4000000
/-! the keys of a dict, whatever they are: walked, and listed -/
namespace Dk
open PySem PySem.Spec PyProof.Rows
open Sem (wp)
section
variable {prog : Program} {w : World} {A : Around} {E : Value → Shared → Prop} {s : Shared} {d it : Addr} {es : Array DictEntry} {i ep : Nat}
end
end Dk
namespace L2
open PySem PySem.Spec PyProof.Rows
end L2

set_option maxHeartbeats 4000000
/-! {k: v}, k a tuple -/
namespace L2
open PySem PySem.Spec PyProof.Rows
end L2

set_option maxHeartbeats 4000000
/-! enumerate of a list -/
namespace L2
open PySem PySem.Spec PyProof.Rows
section
variable {X : Cx} {es : List Expr} {kk : Nat} {tp : Pos}
end
end L2

set_option maxHeartbeats 4000000
/-! list comprehensions of one clause with one test -/
namespace L2
open PySem PySem.Spec PyProof.Rows
section
variable {X : Cx} {elt tg iter cond : Expr} {scope : Scope} {pos : Pos} {wi : TI} {g : TG} {tc : TT} {te : TE} {Nc : List Str} {mp : List (Option Nat)}
end
end L2

set_option maxHeartbeats 4000000
/-! sums, blocks over enumerate, blocks with a test over a list -/
namespace L2
open PySem PySem.Spec PyProof.Rows
end L2

set_option maxHeartbeats 4000000
/-! the greatest of a list -/
namespace L2
open PySem PySem.Spec PyProof.Rows
theorem call_maxL {X : Cx} (hc : X.calm = true) : CallR X (.builtin "max") (fun xs H Q => ∃ (p : Addr) (ns : List Int), xs = [.ref p] ∧ SqL X.K H p (ns.map V.int) ∧ 0 < ns.length ∧ ∀ M, M ∈ ns → (∀ a, a ∈ ns → a ≤ M) → Q (.int M) H) := by
  intro pins s σ H xs us Q I r h
  obtain ⟨p, ns, rfl, hq, hn, q⟩ := h
  obtain ⟨u, rfl, ru⟩ := r.one
  cases ru
  obtain ⟨its, rv, pl, hz⟩ := I.list hq
  have hi := intsAre_of rv
  have hl := pl.isList
  obtain ⟨xs, e⟩ := hi.allInts.items
  have hns : ns = xs.toList.map (·.1) := by
    rw [← hi.numsOf, ← nums_intItems, ← e]
  have hsz : 0 < xs.size := by
    have h3 := hn; rw [hns, List.length_map, Array.length_toList] at h3; exact h3
  rw [e] at hl
  refine max_intList (show X.A.handled = none from I.ok.hd hc) hl hsz fun v h' tk hv hk => ?_
  obtain ⟨t, rfl⟩ := intItems_at hv
  obtain ⟨h1, h2⟩ := argBest_gt (PySem.numAt xs) (xs.size - 1)
  refine ⟨.int (PySem.numAt xs (argBest (fun i j => decide (PySem.numAt xs i > PySem.numAt xs j)) (xs.size - 1))), H, I.kept (t' := tk) hk, ⟨_, rfl⟩, q _ ?_ fun a ha => ?_⟩
  · rw [hns, numAt_eq]; exact getD_mem (by rw [List.length_map, Array.length_toList]; omega)
  · rw [hns] at ha
    obtain ⟨j, hj, rfl⟩ := mem_getD ha
    rw [List.length_map, Array.length_toList] at hj
    rw [← numAt_eq]; exact h2 j (by omega)
end L2

set_option maxHeartbeats 4000000
namespace K25
open PySem PySem.Spec PyProof.Rows L2 Am Pc Ba
structure Prd (x y z : A5) : Prop where
  amt : Amt z.1.1 z.1.2.1 z.1.2.2.1 z.1.2.2.2 z.2
  same : Same4 (x.1.1 * y.1.1 - x.1.2.1 * y.1.2.2.2 - x.1.2.2.1 * y.1.2.2.1 - x.1.2.2.2 * y.1.2.1) (x.1.1 * y.1.2.1 + x.1.2.1 * y.1.1 - x.1.2.2.1 * y.1.2.2.2 - x.1.2.2.2 * y.1.2.2.1)
    (x.1.1 * y.1.2.2.1 + x.1.2.1 * y.1.2.1 + x.1.2.2.1 * y.1.1 - x.1.2.2.2 * y.1.2.2.2) (x.1.1 * y.1.2.2.2 + x.1.2.1 * y.1.2.2.1 + x.1.2.2.1 * y.1.2.1 + x.1.2.2.2 * y.1.1) (x.2 + y.2) z.1.1 z.1.2.1 z.1.2.2.1 z.1.2.2.2 z.2
  le : z.2 ≤ x.2 + y.2
def spLTimes : Sp := fun vs H Q _ => ∃ (p q : Addr) (x y : A5) (n m : Nat), vs = [.ref p, .ref q] ∧ H p = some (tA x) ∧ H q = some (tA y) ∧ Ok5 n m x ∧ Ok5 n m y ∧ n ≤ 100000 ∧
  ∀ (r : Addr) (H' : Hp) (z : A5), Same H H' → H' r = some (tA z) → Prd x y z → Ok5 (2 * n + 4) (2 * m : Nat) z → Q (.ref r) H'
def tstep (x y : List Int) (j k : Nat) (l : List Int) : List Int := l.set ((j + k) % 4) (l.getD ((j + k) % 4) 0 + (1 - 2 * (((j + k) / 4 : Nat) : Int)) * x.getD j 0 * y.getD k 0)
def trow (x y : List Int) (j : Nat) : Nat → List Int → List Int
  | 0, l => l
  | k + 1, l => tstep x y j k (trow x y j k l)
def tall (x y : List Int) : Nat → List Int
  | 0 => [0, 0, 0, 0]
  | j + 1 => trow x y j 4 (tall x y j)
theorem tstep_len (x y : List Int) (j k : Nat) (l : List Int) : (tstep x y j k l).length = l.length := List.length_set
theorem trow_len (x y : List Int) (j : Nat) : ∀ (k : Nat) (l : List Int), (trow x y j k l).length = l.length
  | 0, l => rfl
  | k + 1, l => by
    show (tstep x y j k (trow x y j k l)).length = _
    rw [tstep_len, trow_len]
theorem tall_len (x y : List Int) : ∀ j, (tall x y j).length = 4
  | 0 => rfl
  | j + 1 => by
    show (trow x y j 4 (tall x y j)).length = _
    rw [trow_len, tall_len]
theorem tall_eq (a b c d a' b' c' d' : Int) : tall [a, b, c, d] [a', b', c', d'] 4 = [a * a' - b * d' - c * c' - d * b', a * b' + b * a' - c * d' - d * c', a * c' + b * b' + c * a' - d * d', a * d' + b * c' + c * b' + d * a'] := by
  simp [tall, trow, tstep, Int.neg_mul, Int.sub_eq_add_neg]
theorem ixN_nat {n i : Nat} (h : i < n) : ixN n (i : Int) = some i := by
  unfold ixN
  rw [if_pos (by omega), if_pos (by omega), Int.toNat_natCast]
theorem atI_nat {l : List Int} {i : Nat} (h : i < l.length) : atI (l.map V.int) (i : Int) = some (.int (l.getD i 0)) := by
  unfold atI
  rw [ixN_nat (by rw [List.length_map]; exact h), Option.bind_some, List.getElem?_map, List.getElem?_eq_getElem h]
  simp [List.getD, List.getElem?_eq_getElem h]
section
variable {P : Program} {w : World} {K : PySem.W.Frag} {mg : Str → Option Value} {base : Heap} {k : Nat} {h : Heap}
end
end K25

set_option maxHeartbeats 4000000
namespace K25
open PySem PySem.Spec PyProof.Rows L2 Am Pc Ba
section
variable {P : Program} {w : World} {K : PySem.W.Frag} {mg : Str → Option Value} {base : Heap} {k : Nat} {h : Heap}
theorem sc_ltimes : FnScope ["_law_one", "_law_other", "_law_parts", "_law_j", "_law_k", "_law_at", "_law_sign"] ["_law_one", "_law_other"] (defScope (top 54)) := ⟨rfl, rfl, rfl, by decide +kernel, rfl, by decide +kernel, by decide +kernel⟩
theorem ok_ltimes (F : FunAt K "_law_times" (top 54) .none) (X : K.In h) (G : h.Ns mainGlobals mg) (B : Bs mg) (c__law_low : Cal P w K mg base k "_law_low" ["_law_parts", "_law_h"] spLow) : Cal P w K mg base (k + 1) "_law_times" ["_law_one", "_law_other"] spLTimes := by
  have nd := sc_ltimes.nd
  refine F.cal X G sc_ltimes (bnd2 fun _ _ _ _ _ _ _ _ => rfl) (fun vs H Q E h => ?_) (fun f cdv A outer s H vs Q E hr h => ?_)
  · obtain ⟨p, q, x, y, n, m, rfl, _⟩ := h; rfl
  obtain ⟨p, q, x, y, n, m, rfl, hp, hq, ox, oy, n1, kq⟩ := h
  obtain ⟨⟨a, b, c, d⟩, h⟩ := x
  obtain ⟨⟨a', b', c', d'⟩, h'⟩ := y
  have hx0 : 0 ≤ h := ox.amt.nn
  have hy0 : 0 ≤ h' := oy.amt.nn
  have S1 : SqT K H p [.int a, .int b, .int c, .int d, .int h] := SqT.of hp
  have S2 : SqT K H q [.int a', .int b', .int c', .int d', .int h'] := SqT.of hq
  have gx : ∀ i : Nat, i < 4 → atI [V.int a, .int b, .int c, .int d, .int h] (0 + (i : Int)) = some (.int ([a, b, c, d].getD i 0)) ∧ Sz n ([a, b, c, d].getD i 0) := fun i hi => by
    have : i = 0 ∨ i = 1 ∨ i = 2 ∨ i = 3 := by omega
    rcases this with rfl | rfl | rfl | rfl
    · exact ⟨rfl, ox.sz.z1⟩
    · exact ⟨rfl, ox.sz.z2⟩
    · exact ⟨rfl, ox.sz.z3⟩
    · exact ⟨rfl, ox.sz.z4⟩
  have gy : ∀ i : Nat, i < 4 → atI [V.int a', .int b', .int c', .int d', .int h'] (0 + (i : Int)) = some (.int ([a', b', c', d'].getD i 0)) ∧ Sz n ([a', b', c', d'].getD i 0) := fun i hi => by
    have : i = 0 ∨ i = 1 ∨ i = 2 ∨ i = 3 := by omega
    rcases this with rfl | rfl | rfl | rfl
    · exact ⟨rfl, oy.sz.z1⟩
    · exact ⟨rfl, oy.sz.z2⟩
    · exact ⟨rfl, oy.sz.z3⟩
    · exact ⟨rfl, oy.sz.z4⟩
  refine ⟨_, (@pss_cons _ _ _ _ _ (@ps_set _ _ 2 _ _ _ _ nd rfl (Or.inl rfl) (@pe_lst _ _ _ _ (pa_cons pe_int (pa_cons pe_int (pa_cons pe_int (pa_cons pe_int pa_nil))))) rfl (.inl rfl))
    (@pss_cons _ _ _ _ _ (ps_for PassesOwn.never rfl (pi_range1 rfl B.range (pa_cons pe_int pa_nil)) (pg_name (i := 3) nd rfl (Or.inl rfl))
      (@pss_one _ _ _ (ps_for PassesOwn.never rfl (pi_range1 rfl B.range (pa_cons pe_int pa_nil)) (pg_name (i := 4) nd rfl (Or.inl rfl))
        (@pss_cons _ _ _ _ _ (@ps_set _ _ 5 _ _ _ _ nd rfl (Or.inl rfl) (pe_op op_mod (pe_op op_add (pv 3) (pv 4)) pe_int) rfl (.inl rfl))
        (@pss_cons _ _ _ _ _ (@ps_set _ _ 6 _ _ _ _ nd rfl (Or.inl rfl) (pe_op op_sub pe_int (pe_op op_mul pe_int (pe_op op_fdiv (pe_op op_add (pv 3) (pv 4)) pe_int))) rfl (.inl rfl))
        (@pss_one _ _ _ (ps_asg (pe_op op_add (pe_ix ix_list (pv 2) (pv 5) (fun _ _ => rfl)) (pe_op op_mulG (pe_op op_mulG (pv 6) (pe_ix ix_tup (pv 0) (pv 3) (fun _ _ => rfl))) (pe_ix ix_tup (pv 1) (pv 4) (fun _ _ => rfl)))) (pg_sub (pv 2) (pv 5) set_list))))))))
    (@pss_one _ _ _ (ps_ret (pe_cal c__law_low hr rfl (pa_cons (pv 2) (pa_cons (pe_op op_add (pe_ix ix_tup (pv 0) pe_int (fun _ _ => rfl)) (pe_ix ix_tup (pv 1) pe_int (fun _ _ => rfl))) pa_nil))))))), ?_⟩
  try dsimp only [cxK]
  refine ⟨t4, fun lp hlp => ?_⟩
  refine ⟨_, rfl, by decide, by decide, ?_⟩
  refine for_range (n := 4) (fun j σ H' => Same H H' ∧ H' lp = some (.lst ((tall [a, b, c, d] [a', b', c', d'] j).map V.int)) ∧ ∃ v3 v4 v5 v6, σ = [some (.ref p), some (.ref q), some (.ref lp), v3, v4, v5, v6]) ⟨same_new hlp _, upd_same, _, _, _, _, rfl⟩ ?_ ?_
  · rintro j σ H1 hj ⟨s1, a1, v3, v4, v5, v6, rfl⟩
    refine ⟨_, rfl, by decide, by decide, ?_⟩
    refine for_range (n := 4) (fun k σ H' => Same H H' ∧ H' lp = some (.lst ((trow [a, b, c, d] [a', b', c', d'] j k (tall [a, b, c, d] [a', b', c', d'] j)).map V.int)) ∧ ∃ v4 v5 v6, σ = [some (.ref p), some (.ref q), some (.ref lp), some (.int (0 + (j : Int))), v4, v5, v6]) ⟨s1, a1, _, _, _, rfl⟩ ?_ ?_
    · rintro k σ H2 hk ⟨s2, a2, v4, v5, v6, rfl⟩
      obtain ⟨ga, za⟩ := gx j hj
      obtain ⟨gb, zb⟩ := gy k hk
      have e1 : ((0 + (j : Int)) + (0 + (k : Int))) % 4 = (((j + k) % 4 : Nat) : Int) := by omega
      have e2 : ((0 + (j : Int)) + (0 + (k : Int))) / 4 = (((j + k) / 4 : Nat) : Int) := by omega
      have L : (trow [a, b, c, d] [a', b', c', d'] j k (tall [a, b, c, d] [a', b', c', d'] j)).length = 4 := by rw [trow_len, tall_len]
      have zs : Sz 2 (1 - 2 * (((j + k) / 4 : Nat) : Int)) := by
        have : (j + k) / 4 = 0 ∨ (j + k) / 4 = 1 := by omega
        rcases this with z | z <;> rw [z] <;> decide +kernel
      refine ⟨_, rfl, _, rfl, _, _, rfl, rfl, _, _, rfl, rfl, (by decide : (0 : Int) < 4), ?_⟩
      refine ⟨_, rfl, _, rfl, _, _, rfl, rfl, _, _, rfl, rfl, ⟨by decide, by decide⟩, _, _, rfl, rfl, .inl ⟨by decide, by decide⟩, _, _, rfl, rfl, ?_⟩
      refine ⟨_, rfl, _, rfl, lp, _, _, _, rfl, rfl, SqL.of a2, (by rw [e1]; exact atI_nat (by rw [L]; exact Nat.mod_lt _ (by decide))), _, rfl, _, rfl, _, rfl, p, _, _, _, rfl, rfl, s2.tup S1, ga, _, _, rfl, rfl, (by rw [e2]; exact ⟨_, _, zs, za, by omega⟩), _, rfl, _, rfl, q, _, _, _, rfl, rfl, s2.tup S2, gb, _, _, rfl, rfl, (by rw [e2]; exact ⟨_, _, zs.mul za, zb, by omega⟩), _, _, rfl, rfl, ?_⟩
      refine ⟨_, rfl, _, rfl, lp, _, _, _, rfl, rfl, a2, (by rw [e1]; exact ixN_nat (by rw [List.length_map, L]; exact Nat.mod_lt _ (by decide))), same_upd s2 hlp, ?_, _, _, _, rfl⟩
      rw [upd_same, e2]
      show _ = some (HO.lst ((tstep _ _ j k _).map V.int))
      unfold tstep
      rw [List.map_set]
    · rintro σ H2 ⟨s2, a2, v4, v5, v6, rfl⟩
      exact ⟨s2, a2, _, _, _, _, rfl⟩
  · rintro σ H1 ⟨s1, a1, v3, v4, v5, v6, rfl⟩
    rw [tall_eq] at a1
    refine ⟨_, rfl, _, rfl, p, _, _, _, rfl, rfl, s1.tup S1, rfl, _, rfl, q, _, _, _, rfl, rfl, s1.tup S2, rfl, _, _, rfl, rfl, ?_⟩
    refine ⟨lp, _, _, _, _, _, rfl, a1, by omega, fun r H' x' y' z' u' v' S' hr' RE => ?_⟩
    have o1 : h ≤ m := ox.le
    have o2 : h' ≤ m := oy.le
    have o3 : v' ≤ h + h' := RE.le
    have zx := ox.sz
    have zy := oy.sz
    refine kq r H' ((x', y', z', u'), v') (s1.trans S') hr' ⟨RE.amt, RE.same, o3⟩ ⟨RE.sz ⟨?_, ?_, ?_, ?_⟩, RE.amt, by show v' ≤ _; omega⟩
    · exact ((((zx.z1.mul zy.z1).sub (zx.z2.mul zy.z4)).sub (zx.z3.mul zy.z3)).sub (zx.z4.mul zy.z2)).mono (by omega)
    · exact ((((zx.z1.mul zy.z2).add (zx.z2.mul zy.z1)).sub (zx.z3.mul zy.z4)).sub (zx.z4.mul zy.z3)).mono (by omega)
    · exact ((((zx.z1.mul zy.z3).add (zx.z2.mul zy.z2)).add (zx.z3.mul zy.z1)).sub (zx.z4.mul zy.z4)).mono (by omega)
    · exact ((((zx.z1.mul zy.z4).add (zx.z2.mul zy.z3)).add (zx.z3.mul zy.z2)).add (zx.z4.mul zy.z1)).mono (by omega)
end
end K25

set_option maxHeartbeats 4000000
namespace K25
open PySem PySem.Spec PyProof.Rows L2 Am Pc Ba
def sm (fs : List Int) (v : Int × Int × Int × Int) : Nat → Int × Int × Int × Int
  | 0 => (0, 0, 0, 0)
  | i + 1 => let (a, b, c, d) := sm fs v i; let (x, y, z, u) := rot i v; let f := fs.getD i 0; (a + f * x, b + f * y, c + f * z, d + f * u)
abbrev Q4 (n : Nat) (v : Int × Int × Int × Int) : Prop := Sz4 n v.1 v.2.1 v.2.2.1 v.2.2.2
theorem rot_sz {n : Nat} {v : Int × Int × Int × Int} (h : Q4 n v) : ∀ i, Q4 n (rot i v)
  | 0 => h
  | i + 1 => let r := rot_sz h i; ⟨r.z4.neg, r.z1, r.z2, r.z3⟩
theorem sm_sz {n n' : Nat} {fs : List Int} {v : Int × Int × Int × Int} (h : Q4 n v) (hf : ∀ f ∈ fs, Sz n' f) : ∀ i, Q4 (n + n' + i) (sm fs v i)
  | 0 => ⟨Nat.pow_pos (by decide), Nat.pow_pos (by decide), Nat.pow_pos (by decide), Nat.pow_pos (by decide)⟩
  | i + 1 => by
    have r := rot_sz h i
    have s := sm_sz h hf i
    have f0 : Sz n' (fs.getD i 0) := by
      rw [List.getD_eq_getElem?_getD]
      cases e : fs[i]? with
      | none => exact Nat.pow_pos (by decide)
      | some f => exact hf f (List.mem_of_getElem? e)
    exact ⟨(s.z1.add (f0.mul r.z1)).mono (by omega), (s.z2.add (f0.mul r.z2)).mono (by omega), (s.z3.add (f0.mul r.z3)).mono (by omega), (s.z4.add (f0.mul r.z4)).mono (by omega)⟩
abbrev L4 (v : Int × Int × Int × Int) : List Int := [v.1, v.2.1, v.2.2.1, v.2.2.2]
structure Prod4 (a b c d h a' b' c' d' h' x y z u g : Int) : Prop where
  amt : Amt x y z u g
  same : Same4 (a * a' - d * b' - c * c' - b * d') (b * a' + a * b' - d * c' - c * d') (c * a' + b * b' + a * c' - d * d') (d * a' + c * b' + b * c' + a * d') (h + h') x y z u g
  le : g ≤ h + h'
def spTimes : Sp := fun vs H Q _ => ∃ n p q a b c d h a' b' c' d' h', In2 n vs H p q a b c d h a' b' c' d' h' ∧ ∀ (r : Addr) (H' : Hp) (x y z u g : Int), Same H H' → H' r = some (T5 x y z u g) → Prod4 a b c d h a' b' c' d' h' x y z u g → Sz4 (n + n + 4) x y z u → Q (.ref r) H'
section
variable {P : Program} {w : World} {K : PySem.W.Frag} {mg : Str → Option Value} {base : Heap} {k : Nat} {h : Heap}

theorem sc_times : FnScope ["one", "other", "sums", "turning", "factor"] ["one", "other"] (defScope (top 21)) := ⟨rfl, rfl, rfl, by decide +kernel, rfl, by decide +kernel, by decide +kernel⟩
theorem ok_times (F : FunAt K "times" (top 21) .none) (X : K.In h) (G : h.Ns mainGlobals mg) (B : Bs mg) (c_halved_out : Cal P w K mg base k "halved_out" ["a", "b", "c", "d", "h"] spHalf) (c_spun_once : Cal P w K mg base k "spun_once" ["one"] spOnce) : Cal P w K mg base (k + 1) "times" ["one", "other"] spTimes := by
  have nd := sc_times.nd
  refine F.cal X G sc_times (bnd2 fun _ _ _ _ _ _ _ _ => rfl) (fun vs H Q E h => ?_) (fun f cdv A outer s H vs Q E hr h => ?_)
  · obtain ⟨n, p, q, a, b, c, d, h, a', b', c', d', h', I, _⟩ := h; rw [I.vs]; rfl
  obtain ⟨n, p, q, a, b, c, d, h, a', b', c', d', h', ⟨rfl, e1, e2, h0, h0', hh, hn, z, z'⟩, kq⟩ := h
  have S : SqT K H p [.int a, .int b, .int c, .int d, .int h] := SqT.of e1
  have S' : SqT K H q [.int a', .int b', .int c', .int d', .int h'] := SqT.of e2
  have hz : Q4 n (a, b, c, d) := z
  have hf : ∀ f ∈ [a', b', c', d'], Sz n f := by
    intro f hx
    simp only [List.mem_cons, List.not_mem_nil, or_false] at hx
    rcases hx with rfl | rfl | rfl | rfl
    · exact z'.z1
    · exact z'.z2
    · exact z'.z3
    · exact z'.z4
  refine ⟨_, (@pss_cons _ _ _ _ _ (@ps_set _ _ 2 _ _ _ _ nd rfl (Or.inl rfl) (@pe_lst _ _ _ _ (pa_cons pe_int (pa_cons pe_int (pa_cons pe_int (pa_cons pe_int pa_nil))))) rfl (.inl rfl))
    (@pss_cons _ _ _ _ _ (@ps_set _ _ 3 _ _ _ _ nd rfl (Or.inl rfl) (pv 0) rfl (.inl rfl))
    (@pss_cons _ _ _ _ _ (ps_for PassesOwn.never rfl (pi_tup (pe_slice sl_tup (pv 1) po_none (po_some pe_int))) (pg_name (i := 4) nd rfl (Or.inr rfl))
      (@pss_cons _ _ _ _ _ (ps_setLc (i := 2) rfl nd rfl rfl (LcOk.of (Nc := ["x", "y", "factor"]) (mp := [none, none, some 4]) (by kernel_rfl)) (pi_zip false true rfl B.zip (pa_cons (pv 2) (pa_cons (pe_slice sl_tup (pv 3) po_none (po_some pe_int)) pa_nil))) (fun _ _ _ _ => (pg_pairC rfl (show (["x", "y", "factor"] : List Str).Nodup by decide +kernel) rfl rfl rfl rfl)) (fun _ _ _ _ => (pe_op op_add (pv 0) (pe_op op_mulG (pv 2) (pv 1)))) rfl)
      (@pss_one _ _ _ (@ps_set _ _ 3 _ _ _ _ nd rfl (Or.inl rfl) (pe_cal c_spun_once hr rfl (pa_cons (pv 3) pa_nil)) rfl (.inl rfl)))))
    (@pss_one _ _ _ (ps_ret (pe_cal c_halved_out hr rfl (pa_cons (pe_ix ix_list (pv 2) pe_int (fun _ _ => rfl)) (pa_cons (pe_ix ix_list (pv 2) pe_int (fun _ _ => rfl)) (pa_cons (pe_ix ix_list (pv 2) pe_int (fun _ _ => rfl)) (pa_cons (pe_ix ix_list (pv 2) pe_int (fun _ _ => rfl)) (pa_cons (pe_op op_add (pe_ix ix_tup (pv 0) pe_int (fun _ _ => rfl)) (pe_ix ix_tup (pv 1) pe_int (fun _ _ => rfl))) pa_nil))))))))))), ?_⟩
  try dsimp only [cxK]
  refine ⟨(by show 4 ≤ sizeLine; decide), fun l0 hl0 => ?_⟩
  have s1 := same_new hl0 (.lst [.int 0, .int 0, .int 0, .int 0])
  refine ⟨_, rfl, ?_⟩
  refine ⟨_, rfl, 4, rfl, q, _, rfl, s1.tup S', cut54, fun l1 hl1 => ⟨l1, rfl, ⟨_, SqT.of upd_same⟩, ?_⟩⟩
  have s2 := s1.trans (same_new hl1 (.tup ([a', b', c', d'].map V.int)))
  refine for_tup (K := K) (a := l1) (xs := [a', b', c', d'].map V.int) (fun i σ H' => Same (upd (upd H l0 (.lst [.int 0, .int 0, .int 0, .int 0])) l1 (.tup ([a', b', c', d'].map V.int))) H' ∧ ∃ l t v, σ = [some (.ref p), some (.ref q), some (.ref l), some (.ref t), v] ∧
      H' l = some (.lst ((L4 (sm [a', b', c', d'] (a, b, c, d) i)).map V.int)) ∧ H' t = some (T4 (rot i (a, b, c, d)) h))
    ⟨Same.refl _, l0, p, none, rfl, ?_, s2 _ _ e1⟩ (fun i σ H' _ p => p.1.tup (SqT.of upd_same)) ?_ ?_
  · rw [upd_ne (fun e => by rw [← e, upd_same] at hl1; cases hl1), upd_same]; rfl
  · rintro i x σ H2 hx ⟨s3, l, t, v, rfl, hl, ht⟩
    rw [List.getElem?_map] at hx
    obtain ⟨fa, hfa, rfl⟩ := Option.map_eq_some_iff.mp hx
    have zf := hf fa (List.mem_of_getElem? hfa)
    have zr := rot_sz hz i
    have ef : [a', b', c', d'].getD i 0 = fa := by rw [List.getD_eq_getElem?_getD, hfa]; rfl
    refine ⟨_, rfl, _, rfl, 4, rfl, t, _, rfl, SqT.of ht, cut54, fun l2 hl2 => ?_⟩
    refine ⟨l, l2, _, (L4 (rot i (a, b, c, d))).map V.int, rfl, (same_new hl2 _).seq (SqL.of hl), SqT.of upd_same, fun acc hacc => ?_⟩
    refine lc_zipI (K := K) (ns := L4 (sm [a', b', c', d'] (a, b, c, d) i)) (ms := L4 (rot i (a, b, c, d))) (fr := [some (.int fa)]) (fun x y => x + fa * y) rfl (show 4 ≤ sizeLine by decide) ((same_new hl2 _).seq (SqL.of hl)) (SqT.of upd_same) hacc
      (fun ha hQ => ⟨_, _, rfl, SqT.of ha, rfl, _, _, rfl, _, _, rfl, rfl, hQ⟩) ?_ ?_
    · intro x y H2 N hx hy kN
      have zy : Sz n y := by
        simp only [List.mem_cons, List.not_mem_nil, or_false] at hy
        rcases hy with rfl | rfl | rfl | rfl
        · exact zr.z1
        · exact zr.z2
        · exact zr.z3
        · exact zr.z4
      exact ⟨_, rfl, _, rfl, _, rfl, _, _, rfl, rfl, ⟨n, n, zf, zy, by omega⟩, _, _, rfl, rfl, kN⟩
    intro H3 s4 a4
    have s5 := (same_new hl2 (.tup ((L4 (rot i (a, b, c, d))).map V.int))).trans s4
    refine ⟨_, rfl, t, _, _, _, _, _, rfl, s5 _ _ ht, fun r H4 s6 e6 => ?_⟩
    refine ⟨s3.trans (s5.trans s6), acc, r, _, rfl, ?_, e6⟩
    rw [s6 _ _ a4, ← ef]
    rfl
  · rintro σ H2 ⟨s3, l, t, v, rfl, hl, ht⟩
    have S2 := s2.trans s3
    have hl' : SqL K H2 l ((L4 (sm [a', b', c', d'] (a, b, c, d) 4)).map V.int) := SqL.of hl
    have zz : Q4 (n + n + 4) (sm [a', b', c', d'] (a, b, c, d) 4) := sm_sz hz hf 4
    refine ⟨_, rfl, l, _, _, _, rfl, rfl, hl', rfl, _, rfl, l, _, _, _, rfl, rfl, hl', rfl, _, rfl, l, _, _, _, rfl, rfl, hl', rfl, _, rfl, l, _, _, _, rfl, rfl, hl', rfl, _, rfl, p, _, _, _, rfl, rfl, S2.tup S, rfl, _, rfl, q, _, _, _, rfl, rfl, S2.tup S', rfl, _, _, rfl, rfl, ?_⟩
    refine ⟨_, _, _, _, _, rfl, (by show 0 ≤ h + h'; omega), fun r H' x y v u g s4 e4 r4 => ?_⟩
    refine kq r H' x y v u g (S2.trans s4) e4 ⟨r4.amt, ?_, r4.le⟩ (r4.sz zz)
    have hs := r4.same
    have q1 : (sm [a', b', c', d'] (a, b, c, d) 4).1 = a * a' - d * b' - c * c' - b * d' := by
      show 0 + a' * a + b' * -d + c' * -c + d' * -b = _
      grind
    have q2 : (sm [a', b', c', d'] (a, b, c, d) 4).2.1 = b * a' + a * b' - d * c' - c * d' := by
      show 0 + a' * b + b' * a + c' * -d + d' * -c = _
      grind
    have q3 : (sm [a', b', c', d'] (a, b, c, d) 4).2.2.1 = c * a' + b * b' + a * c' - d * d' := by
      show 0 + a' * c + b' * b + c' * a + d' * -d = _
      grind
    have q4 : (sm [a', b', c', d'] (a, b, c, d) 4).2.2.2 = d * a' + c * b' + b * c' + a * d' := by
      show 0 + a' * d + b' * c + c' * b + d' * a = _
      grind
    rw [← q1, ← q2, ← q3, ← q4]
    exact hs
end
end K25

set_option maxHeartbeats 4000000
/-! amounts have no divisors of nought; boards that are alike -/
namespace M26
abbrev V4 := Int × Int × Int × Int
def mul (x y : V4) : V4 := (x.1 * y.1 - x.2.1 * y.2.2.2 - x.2.2.1 * y.2.2.1 - x.2.2.2 * y.2.1, x.1 * y.2.1 + x.2.1 * y.1 - x.2.2.1 * y.2.2.2 - x.2.2.2 * y.2.2.1,
  x.1 * y.2.2.1 + x.2.1 * y.2.1 + x.2.2.1 * y.1 - x.2.2.2 * y.2.2.2, x.1 * y.2.2.2 + x.2.1 * y.2.2.1 + x.2.2.1 * y.2.1 + x.2.2.2 * y.1)
end M26

set_option maxHeartbeats 4000000
namespace K25
open PySem PySem.Spec PyProof.Rows L2 Am Pc Ba
theorem eq2_at {x h y g N : Int} (hh : 0 ≤ h) (hg : 0 ≤ g) (h1 : h ≤ N) (h2 : g ≤ N) : Eq2 x h y g ↔ x * p2 (N - h) = y * p2 (N - g) := by
  unfold Eq2
  have e1 := p2_sub hh h1
  have e2 := p2_sub hg h2
  have n1 := p2_ne h
  have n2 := p2_ne g
  have n3 := p2_ne (N - h)
  have n4 := p2_ne (N - g)
  have n5 := p2_ne N
  constructor
  · intro z
    -- times p2 h * p2 g
    have : (x * p2 (N - h)) * (p2 h * p2 g) = (y * p2 (N - g)) * (p2 h * p2 g) := by
      have a1 : (x * p2 (N - h)) * (p2 h * p2 g) = (x * p2 g) * p2 N := by rw [e1]; grind
      have a2 : (y * p2 (N - g)) * (p2 h * p2 g) = (y * p2 h) * p2 N := by rw [e2]; grind
      rw [a1, a2, z]
    exact Int.eq_of_mul_eq_mul_right (Int.mul_ne_zero n1 n2) this
  · intro z
    have : (x * p2 g) * p2 N = (y * p2 h) * p2 N := by
      have a1 : (x * p2 (N - h)) * (p2 h * p2 g) = (x * p2 g) * p2 N := by rw [e1]; grind
      have a2 : (y * p2 (N - g)) * (p2 h * p2 g) = (y * p2 h) * p2 N := by rw [e2]; grind
      rw [← a1, ← a2, z]
    exact Int.eq_of_mul_eq_mul_right n5 this
abbrev Am5 (x : A5) : Prop := Amt x.1.1 x.1.2.1 x.1.2.2.1 x.1.2.2.2 x.2
theorem a5_ext {x y : A5} (h : x.1.1 = y.1.1 ∧ x.1.2.1 = y.1.2.1 ∧ x.1.2.2.1 = y.1.2.2.1 ∧ x.1.2.2.2 = y.1.2.2.2 ∧ x.2 = y.2) : x = y := by
  obtain ⟨⟨a, b, c, d⟩, h1⟩ := x
  obtain ⟨⟨a', b', c', d'⟩, h2⟩ := y
  obtain ⟨rfl, rfl, rfl, rfl, rfl⟩ := h
  rfl
def IsP (x y z : A5) : Prop := Am5 z ∧ Same4 (M26.mul x.1 y.1).1 (M26.mul x.1 y.1).2.1 (M26.mul x.1 y.1).2.2.1 (M26.mul x.1 y.1).2.2.2 (x.2 + y.2) z.1.1 z.1.2.1 z.1.2.2.1 z.1.2.2.2 z.2
theorem Prd.isP {x y z : A5} (p : Prd x y z) : IsP x y z := ⟨p.amt, p.same⟩
theorem Prod4.isP {x y z : A5} (p : Prod4 x.1.1 x.1.2.1 x.1.2.2.1 x.1.2.2.2 x.2 y.1.1 y.1.2.1 y.1.2.2.1 y.1.2.2.2 y.2 z.1.1 z.1.2.1 z.1.2.2.1 z.1.2.2.2 z.2) : IsP x y z := by
  refine ⟨p.amt, ?_⟩
  have s := p.same
  simp only [M26.mul]
  have e1 : x.1.1 * y.1.1 - x.1.2.1 * y.1.2.2.2 - x.1.2.2.1 * y.1.2.2.1 - x.1.2.2.2 * y.1.2.1 = x.1.1 * y.1.1 - x.1.2.2.2 * y.1.2.1 - x.1.2.2.1 * y.1.2.2.1 - x.1.2.1 * y.1.2.2.2 := by omega
  have e2 : x.1.1 * y.1.2.1 + x.1.2.1 * y.1.1 - x.1.2.2.1 * y.1.2.2.2 - x.1.2.2.2 * y.1.2.2.1 = x.1.2.1 * y.1.1 + x.1.1 * y.1.2.1 - x.1.2.2.2 * y.1.2.2.1 - x.1.2.2.1 * y.1.2.2.2 := by omega
  have e3 : x.1.1 * y.1.2.2.1 + x.1.2.1 * y.1.2.1 + x.1.2.2.1 * y.1.1 - x.1.2.2.2 * y.1.2.2.2 = x.1.2.2.1 * y.1.1 + x.1.2.1 * y.1.2.1 + x.1.1 * y.1.2.2.1 - x.1.2.2.2 * y.1.2.2.2 := by omega
  have e4 : x.1.1 * y.1.2.2.2 + x.1.2.1 * y.1.2.2.1 + x.1.2.2.1 * y.1.2.1 + x.1.2.2.2 * y.1.1 = x.1.2.2.2 * y.1.1 + x.1.2.2.1 * y.1.2.1 + x.1.2.1 * y.1.2.2.1 + x.1.1 * y.1.2.2.2 := by omega
  rw [e1, e2, e3, e4]
  exact s
end K25

set_option maxHeartbeats 4000000
namespace K25
open PySem PySem.Spec PyProof.Rows L2 Am Pc Ba
structure Bd (H : Hp) (l : Addr) (ps : List Addr) (f : Nat → A5) (c n m : Nat) : Prop where
  lst : H l = some (.lst (ps.map V.ref))
  len : ps.length = 2 ^ c
  vals : Vals5 H ps f
  ok : ∀ i, i < 2 ^ c → Ok5 n m (f i)
theorem Bd.same {H H' : Hp} {l : Addr} {ps : List Addr} {f : Nat → A5} {c n m : Nat} (b : Bd H l ps f c n m) (s : Same H H') : Bd H' l ps f c n m := ⟨s _ _ b.lst, b.len, b.vals.same s, b.ok⟩
theorem Bd.at {H : Hp} {l : Addr} {ps : List Addr} {f : Nat → A5} {c n m i : Nat} (b : Bd H l ps f c n m) (hi : i < 2 ^ c) : ∃ p, ps[i]? = some p ∧ H p = some (tA (f i)) ∧ atI (ps.map V.ref) (i : Int) = some (.ref p) := by
  have hl : i < ps.length := by rw [b.len]; exact hi
  refine ⟨ps[i], List.getElem?_eq_getElem hl, b.vals i _ (List.getElem?_eq_getElem hl), L2.atI_nat (by rw [List.getElem?_map, List.getElem?_eq_getElem hl]; rfl)⟩
theorem l5_inj {x y : A5} : l5 x = l5 y ↔ x = y := by
  constructor
  · intro h
    unfold l5 at h
    simp only [List.cons.injEq, and_true] at h
    exact a5_ext h
  · rintro rfl; rfl
theorem l5_0 {x : A5} : l5 x = [0, 0, 0, 0, 0] ↔ x = ((0, 0, 0, 0), 0) := l5_inj (y := ((0, 0, 0, 0), 0))
end K25

set_option maxHeartbeats 4000000
namespace K25
open PySem PySem.Spec PyProof.Rows L2 Am Pc Ba
theorem fresh_of {H H' : Hp} {a : Addr} (s : Same H H') (h : H' a = none) : H a = none := by
  cases e : H a with
  | none => rfl
  | some o => rw [s _ _ e] at h; cases h
def Hld (f : Nat → A5) (c : Nat) : Prop := ∃ j, j < 2 ^ c ∧ f j ≠ ((0, 0, 0, 0), 0)
theorem ixn {N i : Nat} (h : i < N) : ixN N (i : Int) = some i := by
  unfold ixN
  rw [if_pos (Int.natCast_nonneg i), if_pos (by omega), Int.toNat_natCast]
theorem mod_nat (z : Int) {N : Nat} (h : 0 < N) : ∃ i : Nat, i < N ∧ z % (N : Int) = (i : Int) := by
  have h0 := Int.emod_nonneg z (show (N : Int) ≠ 0 by omega)
  have h1 := Int.emod_lt_of_pos z (show (0 : Int) < N by omega)
  exact ⟨(z % (N : Int)).toNat, by omega, by omega⟩
theorem Bd.mod {H : Hp} {l : Addr} {ps : List Addr} {f : Nat → A5} {c n m : Nat} (b : Bd H l ps f c n m) (z : Int) : ∃ i : Nat, i < 2 ^ c ∧ z % ((ps.map V.ref).length : Nat) = (i : Int) := by
  rw [List.length_map, b.len]
  exact mod_nat z (Nat.two_pow_pos c)
theorem Bd.put {H : Hp} {l p : Addr} {ps : List Addr} {f : Nat → A5} {c n m j : Nat} {x : A5} (b : Bd H l ps f c n m) (hp : H p = some (tA x)) (ox : Ok5 n m x) : Bd (upd H l (.lst ((ps.map V.ref).set j (.ref p)))) l (ps.set j p) (fun i => if i = j then x else f i) c n m := by
  refine ⟨by rw [upd_same, List.map_set], by rw [List.length_set, b.len], vals_upd (vals_set b.vals hp) b.lst, fun i hi => ?_⟩
  show Ok5 n m (if i = j then x else f i)
  split
  · exact ox
  · exact b.ok i hi
theorem Bd.mono {H : Hp} {l : Addr} {ps : List Addr} {f : Nat → A5} {c n m n' m' : Nat} (b : Bd H l ps f c n m) (h : n ≤ n') (h' : m ≤ m') : Bd H l ps f c n' m' := ⟨b.lst, b.len, b.vals, fun i hi => (b.ok i hi).mono h (by omega)⟩
theorem lc_board {K : PySem.W.Frag} {l : Addr} {ps : List Addr} {f : Nat → A5} {c n m : Nat} {te : TE} {fr : L2.St} {H1 : Hp} {acc : Addr} {Q : VK} (R : Nat → A5 → Prop) (BD : Bd H1 l ps f c n m) (c6 : c ≤ 6) (hacc : H1 acc = none)
    (hs : ∀ i p H (N : V → Hp → Prop), H p = some (tA (f i)) → i < 2 ^ c → Same H1 H → (∀ r H5 z, Same H H5 → H5 r = some (tA z) → R i z → N (.ref r) H5) → te (some (.ref p) :: fr) H N)
    (hd : ∀ H2 qs g, Same H1 H2 → H2 acc = some (.lst (qs.map V.ref)) → qs.length = 2 ^ c → Vals5 H2 qs g → (∀ i, i < 2 ^ c → R i (g i)) → Q (.ref acc) H2) : LcW (Itl K l) (gName 0) te (none :: fr) H1 acc Q := by
  have p6 := pow6 c6
  have lps : (ps.map V.ref).length = 2 ^ c := by rw [List.length_map, BD.len]
  refine lc_list (K := K) (a := l) (xs := ps.map V.ref) (fr := fr) (fun i ys H' => ∃ (qs : List Addr) (g : Nat → A5), Same H1 H' ∧ H' acc = some (.lst ys) ∧ ys = qs.map V.ref ∧ qs.length = i ∧ Vals5 H' qs g ∧ ∀ j, j < i → R j (g j)) (by rw [lps]; exact t64 p6)
    ⟨[], fun _ => ((0, 0, 0, 0), 0), same_new hacc _, upd_same, rfl, rfl, (fun _ _ z => by cases z), fun j hj => absurd hj (Nat.not_lt_zero _)⟩ (fun i ys H' h => by obtain ⟨_, _, s, _⟩ := h; exact SqL.of (s _ _ BD.lst)) ?_ ?_
  · rintro i x ys H2 N hx hy ⟨qs, g, s2, a2, rfl, ql, v2, r2⟩ kN
    rw [List.getElem?_map] at hx
    obtain ⟨p, hp, rfl⟩ := Option.map_eq_some_iff.mp hx
    have hi : i < 2 ^ c := by
      have := (List.getElem?_eq_some_iff.mp hp).1
      rw [BD.len] at this
      exact this
    refine hs i p H2 N (s2 _ _ (BD.vals i p hp)) hi s2 fun r H5 z s5 hr rz => kN (.ref r) H5 (s5 _ _ a2) ⟨qs ++ [r], fun j => if j = qs.length then z else g j, same_upd (s2.trans s5) hacc, upd_same, by rw [List.map_append]; rfl, by simp [ql], vals_upd (vals_push v2 s5 hr) (s5 _ _ a2), fun j hj => ?_⟩
    show R j (if j = qs.length then z else g j)
    split
    · rename_i e
      rw [e, ql]
      exact rz
    · rename_i e
      exact r2 j (by omega)
  · rintro ys H2 hl2 ⟨qs, g, s2, a2, rfl, ql, v2, r2⟩
    rw [lps] at ql r2
    exact hd H2 qs g s2 a2 ql v2 r2
theorem ok_n {m : Nat} : Ok5 100 (m : Int) ((0, 0, 0, 0), 0) := ⟨⟨s_0, s_0, s_0, s_0⟩, ⟨Int.le_refl 0, .inl rfl⟩, Int.natCast_nonneg m⟩
theorem ok_3 {m : Nat} : Ok5 100 (m : Int) ((3, 0, 0, 0), 0) := ⟨⟨sz_small (by decide) (by decide), s_0, s_0, s_0⟩, ⟨Int.le_refl 0, .inl rfl⟩, Int.natCast_nonneg m⟩
theorem ok_1 {m : Nat} : Ok5 100 (m : Int) ((1, 0, 0, 0), 0) := ⟨⟨s_1, s_0, s_0, s_0⟩, ⟨Int.le_refl 0, .inl rfl⟩, Int.natCast_nonneg m⟩
theorem rep_ref (t : Addr) (n : Nat) : (List.replicate n [V.ref t]).flatten = (List.replicate n t).map V.ref := by
  induction n with
  | zero => rfl
  | succ n ih => rw [List.replicate_succ, List.flatten_cons, ih, List.replicate_succ, List.map_cons]; rfl

end K25

set_option maxRecDepth 10000
namespace K14
open L2 (Sz)

def Pos (t r : Int) : Prop := (0 < t ∧ 2 * r * r < t * t) ∨ (0 < r ∧ t * t < 2 * r * r)

instance (t r : Int) : Decidable (Pos t r) := by unfold Pos; infer_instance
/-! ### shares in lowest terms -/
def Cop (p q n : Int) : Prop := Nat.gcd (Nat.gcd p.natAbs q.natAbs) n.natAbs = 1
structure Low (t r b p q n : Int) : Prop where
  ex : ∃ g : Int, g ≠ 0 ∧ t = g * p ∧ r = g * q ∧ b = g * n
  pos : 0 < n
  cop : Cop p q n
theorem Low.sizes {t r b p q n : Int} (h : Low t r b p q n) : p.natAbs ≤ t.natAbs ∧ q.natAbs ≤ r.natAbs ∧ n.natAbs ≤ b.natAbs := by
  obtain ⟨g, hg, rfl, rfl, rfl⟩ := h.ex
  have hg' : 0 < g.natAbs := by omega
  refine ⟨?_, ?_, ?_⟩ <;> (rw [Int.natAbs_mul]; exact Nat.le_mul_of_pos_left _ hg')
theorem gcd_pos {a b c : Nat} (h : c ≠ 0) : 0 < Nat.gcd (Nat.gcd a b) c := Nat.gcd_pos_of_pos_right _ (by omega)
theorem low_div {t r b : Int} (hb : b ≠ 0) {G : Nat} (hG : G = Nat.gcd (Nat.gcd t.natAbs r.natAbs) b.natAbs) {g : Int} (hg : g = if b < 0 then -(G : Int) else G) :
    Low t r b (t.fdiv g) (r.fdiv g) (b.fdiv g) := by
  have hGp : 0 < G := by rw [hG]; exact gcd_pos (by omega)
  have hg0 : g ≠ 0 := by rw [hg]; split <;> omega
  have hgabs : g.natAbs = G := by rw [hg]; split <;> omega
  have dt : g ∣ t := Int.natAbs_dvd_natAbs.mp (by rw [hgabs, hG]; exact Nat.dvd_trans (Nat.gcd_dvd_left _ _) (Nat.gcd_dvd_left _ _))
  have dr : g ∣ r := Int.natAbs_dvd_natAbs.mp (by rw [hgabs, hG]; exact Nat.dvd_trans (Nat.gcd_dvd_left _ _) (Nat.gcd_dvd_right _ _))
  have db : g ∣ b := Int.natAbs_dvd_natAbs.mp (by rw [hgabs, hG]; exact Nat.gcd_dvd_right _ _)
  obtain ⟨p, hp⟩ := dt
  obtain ⟨q, hq⟩ := dr
  obtain ⟨n, hn⟩ := db
  have ep : t.fdiv g = p := by rw [hp]; exact Int.mul_fdiv_cancel_left _ hg0
  have eq : r.fdiv g = q := by rw [hq]; exact Int.mul_fdiv_cancel_left _ hg0
  have en : b.fdiv g = n := by rw [hn]; exact Int.mul_fdiv_cancel_left _ hg0
  rw [ep, eq, en]
  refine ⟨⟨g, hg0, hp, hq, hn⟩, ?_, ?_⟩
  · apply Int.lt_of_not_ge
    intro hle
    have hn0 : n ≠ 0 := by rintro rfl; rw [Int.mul_zero] at hn; exact hb hn
    by_cases hbn : b < 0
    · rw [if_pos hbn] at hg
      have := Int.mul_nonneg_of_nonpos_of_nonpos (a := g) (b := n) (by omega) hle
      omega
    · rw [if_neg hbn] at hg
      have := Int.mul_neg_of_pos_of_neg (a := g) (b := n) (by omega) (by omega)
      omega
  · unfold Cop
    have e : G * Nat.gcd (Nat.gcd p.natAbs q.natAbs) n.natAbs = G * 1 := by
      rw [← Nat.gcd_mul_left, ← Nat.gcd_mul_left, ← hgabs, ← Int.natAbs_mul, ← Int.natAbs_mul, ← Int.natAbs_mul, ← hp, ← hq, ← hn, hgabs, Nat.mul_one]
      exact hG.symm
    exact Nat.eq_of_mul_eq_mul_left hGp e
theorem gcd_order (t r b : Nat) : Nat.gcd (Nat.gcd b r) t = Nat.gcd (Nat.gcd t r) b := by
  rw [Nat.gcd_comm (Nat.gcd b r) t, Nat.gcd_comm b r, ← Nat.gcd_assoc]
theorem Low.unique {p q n p' q' n' : Int} (h : 0 < n) (h' : 0 < n') (c : Cop p q n) (c' : Cop p' q' n') (e1 : p' * n = p * n') (e2 : q' * n = q * n') : p = p' ∧ q = q' ∧ n = n' := by
  have en : n.natAbs = n'.natAbs := by
    have a1 : n.natAbs * Nat.gcd (Nat.gcd p'.natAbs q'.natAbs) n'.natAbs = n'.natAbs * Nat.gcd (Nat.gcd p.natAbs q.natAbs) n.natAbs := by
      rw [← Nat.gcd_mul_left, ← Nat.gcd_mul_left, ← Nat.gcd_mul_left, ← Nat.gcd_mul_left, ← Int.natAbs_mul, ← Int.natAbs_mul, ← Int.natAbs_mul, ← Int.natAbs_mul, ← Int.natAbs_mul, ← Int.natAbs_mul,
        Int.mul_comm n p', Int.mul_comm n q', Int.mul_comm n' p, Int.mul_comm n' q, e1, e2, Int.mul_comm n n']
    have c1 : Nat.gcd (Nat.gcd p.natAbs q.natAbs) n.natAbs = 1 := c
    have c2 : Nat.gcd (Nat.gcd p'.natAbs q'.natAbs) n'.natAbs = 1 := c'
    rw [c1, c2] at a1
    omega
  have en' : n = n' := by omega
  subst en'
  have hn : n ≠ 0 := by omega
  exact ⟨(Int.eq_of_mul_eq_mul_right hn e1).symm, (Int.eq_of_mul_eq_mul_right hn e2).symm, rfl⟩
/-! ### the order of shares -/
def Lt (p q n p' q' n' : Int) : Prop := Pos (p' * n - p * n') (q' * n - q * n')
instance (p q n p' q' n' : Int) : Decidable (Lt p q n p' q' n') := by unfold Lt; infer_instance
end K14

set_option maxHeartbeats 4000000
/-! weights of amounts -/
namespace K15n
open L2 Am K14
def tt (a b c d : Int) : Int := a * a + b * b + c * c + d * d
def rr (a b c d : Int) : Int := a * b + b * c + c * d - d * a
theorem tt_mul (k a b c d : Int) : tt (a * k) (b * k) (c * k) (d * k) = tt a b c d * (k * k) := by unfold tt; grind
theorem rr_mul (k a b c d : Int) : rr (a * k) (b * k) (c * k) (d * k) = rr a b c d * (k * k) := by unfold rr; grind
theorem tt_once (a b c d : Int) : tt (-d) a b c = tt a b c d := by unfold tt; grind
theorem rr_once (a b c d : Int) : rr (-d) a b c = rr a b c d := by unfold rr; grind
theorem p2p (h : Int) : 0 < p2 h := by unfold p2; exact Int.pow_pos (by decide)
theorem can {k x y : Int} (hk : k ≠ 0) (h : k * x = k * y) : x = y := Int.eq_of_mul_eq_mul_left hk h
theorem Low.cr {t r b p q n : Int} (l : Low t r b p q n) : p * b = t * n ∧ q * b = r * n := by
  obtain ⟨g, _, rfl, rfl, rfl⟩ := l.ex
  constructor <;> grind
end K15n

set_option maxHeartbeats 4000000
/-! hefts of boards, at a far place -/
namespace Hw
open PySem PySem.Spec PyProof.Rows L2 Am Pc Ba K14 K15n
def tsum (F : Nat → Int) : Nat → Int
  | 0 => 0
  | n + 1 => tsum F n + F n
theorem tsum_congr {F G : Nat → Int} : ∀ {n}, (∀ i, i < n → F i = G i) → tsum F n = tsum G n
  | 0, _ => rfl
  | n + 1, h => by
    show tsum F n + F n = tsum G n + G n
    rw [tsum_congr fun i hi => h i (by omega), h n (by omega)]
theorem tsum_add {F G : Nat → Int} : ∀ n, tsum (fun i => F i + G i) n = tsum F n + tsum G n
  | 0 => rfl
  | n + 1 => by
    show tsum (fun i => F i + G i) n + (F n + G n) = (tsum F n + F n) + (tsum G n + G n)
    rw [tsum_add n]
    omega
theorem tsum_mul {F : Nat → Int} {k : Int} : ∀ n, tsum (fun i => k * F i) n = k * tsum F n
  | 0 => by show (0 : Int) = k * 0; rw [Int.mul_zero]
  | n + 1 => by
    show tsum (fun i => k * F i) n + k * F n = k * (tsum F n + F n)
    rw [tsum_mul n, Int.mul_add]
def lsum (F : Nat → Int) : List Nat → Int
  | [] => 0
  | a :: l => F a + lsum F l
theorem lsum_perm {F : Nat → Int} {l l' : List Nat} (h : l.Perm l') : lsum F l = lsum F l' := by
  induction h with
  | nil => rfl
  | cons x _ ih => show F x + _ = F x + _; rw [ih]
  | swap x y l => show F y + (F x + lsum F l) = F x + (F y + lsum F l); omega
  | trans _ _ a b => exact a.trans b
theorem lsum_app {F : Nat → Int} : ∀ l l', lsum F (l ++ l') = lsum F l + lsum F l'
  | [], l' => by show lsum F l' = 0 + lsum F l'; omega
  | a :: l, l' => by
    show F a + lsum F (l ++ l') = F a + lsum F l + lsum F l'
    rw [lsum_app l l']
    omega
theorem tsum_range {F : Nat → Int} : ∀ n, tsum F n = lsum F (List.range n)
  | 0 => rfl
  | n + 1 => by
    rw [List.range_succ, lsum_app, ← tsum_range n]
    show tsum F n + F n = tsum F n + (F n + 0)
    omega
theorem lsum_map {F : Nat → Int} {t : Nat → Nat} : ∀ l, lsum (fun i => F (t i)) l = lsum F (l.map t)
  | [] => rfl
  | a :: l => by
    show F (t a) + _ = F (t a) + _
    rw [lsum_map l]
theorem nodup_map_on {t : Nat → Nat} : ∀ {l : List Nat}, (∀ a ∈ l, ∀ b ∈ l, t a = t b → a = b) → l.Nodup → (l.map t).Nodup
  | [], _, _ => List.nodup_nil
  | a :: l, h, d => by
    rw [List.map_cons, List.nodup_cons]
    have d' := List.nodup_cons.mp d
    refine ⟨fun hm => ?_, nodup_map_on (fun x hx y hy => h x (.tail _ hx) y (.tail _ hy)) d'.2⟩
    obtain ⟨b, hb, e⟩ := List.mem_map.mp hm
    have := h b (.tail _ hb) a (.head _) e
    subst this
    exact d'.1 hb
theorem perm_inv {n : Nat} {t : Nat → Nat} (h1 : ∀ i, i < n → t i < n) (h2 : ∀ i, i < n → t (t i) = i) : ((List.range n).map t).Perm (List.range n) := by
  rw [List.perm_iff_count]
  intro a
  have d : (List.range n).Nodup := List.nodup_range
  have d2 : ((List.range n).map t).Nodup := nodup_map_on (fun x hx y hy e => by
    have := h2 x (List.mem_range.mp hx)
    rw [e, h2 y (List.mem_range.mp hy)] at this
    exact this.symm) d
  rw [d.count, d2.count]
  have : a ∈ (List.range n).map t ↔ a ∈ List.range n := by
    rw [List.mem_map, List.mem_range]
    constructor
    · rintro ⟨b, hb, rfl⟩
      exact h1 b (List.mem_range.mp hb)
    · intro ha
      exact ⟨t a, List.mem_range.mpr (h1 a ha), h2 a ha⟩
  by_cases q : a ∈ List.range n
  · rw [if_pos (this.mpr q), if_pos q]
  · rw [if_neg (fun z => q (this.mp z)), if_neg q]
theorem tsum_inv {F : Nat → Int} {n : Nat} {t : Nat → Nat} (h1 : ∀ i, i < n → t i < n) (h2 : ∀ i, i < n → t (t i) = i) : tsum (fun i => F (t i)) n = tsum F n := by
  rw [tsum_range, tsum_range, lsum_map]
  exact lsum_perm (perm_inv h1 h2)
def va (x : A5) (M : Int) : Int := x.1.1 * p2 (M - x.2)
def vb (x : A5) (M : Int) : Int := x.1.2.1 * p2 (M - x.2)
def vc (x : A5) (M : Int) : Int := x.1.2.2.1 * p2 (M - x.2)
def vd (x : A5) (M : Int) : Int := x.1.2.2.2 * p2 (M - x.2)
def nTop (x : A5) (M : Int) : Int := tt (va x M) (vb x M) (vc x M) (vd x M)
def nSide (x : A5) (M : Int) : Int := rr (va x M) (vb x M) (vc x M) (vd x M)
theorem nTop_eq (x : A5) (M : Int) : nTop x M = tt x.1.1 x.1.2.1 x.1.2.2.1 x.1.2.2.2 * (p2 (M - x.2) * p2 (M - x.2)) := tt_mul _ _ _ _ _
theorem nSide_eq (x : A5) (M : Int) : nSide x M = rr x.1.1 x.1.2.1 x.1.2.2.1 x.1.2.2.2 * (p2 (M - x.2) * p2 (M - x.2)) := rr_mul _ _ _ _ _
theorem n_rot {v : Int × Int × Int × Int} {h M : Int} : ∀ j, nTop (Ba.rot j v, h) M = nTop (v, h) M ∧ nSide (Ba.rot j v, h) M = nSide (v, h) M
  | 0 => ⟨rfl, rfl⟩
  | j + 1 => by
    obtain ⟨a, b⟩ := n_rot (v := v) (h := h) (M := M) j
    rw [← a, ← b, nTop_eq, nTop_eq, nSide_eq, nSide_eq]
    exact ⟨congrArg (· * _) (tt_once _ _ _ _), congrArg (· * _) (rr_once _ _ _ _)⟩
theorem n_spin {x : A5} {k M : Int} : nTop (Ba.spin x k) M = nTop x M ∧ nSide (Ba.spin x k) M = nSide x M := n_rot _
theorem n_lift {x : A5} {M N : Int} (h : x.2 ≤ M) (h' : M ≤ N) : nTop x N = (p2 (N - M) * p2 (N - M)) * nTop x M ∧ nSide x N = (p2 (N - M) * p2 (N - M)) * nSide x M := by
  have e : p2 (N - x.2) = p2 (N - M) * p2 (M - x.2) := by
    rw [← p2_add (by omega) (by omega)]
    congr 1
    omega
  rw [nTop_eq, nTop_eq, nSide_eq, nSide_eq, e]
  constructor <;> grind
def sTop (f : Nat → A5) (n : Nat) (M : Int) : Int := tsum (fun w => nTop (f w) M) n
def sSide (f : Nat → A5) (n : Nat) (M : Int) : Int := tsum (fun w => nSide (f w) M) n
theorem s_lift {f : Nat → A5} {n : Nat} {M N : Int} (h : ∀ w, w < n → (f w).2 ≤ M) (h' : M ≤ N) : sTop f n N = (p2 (N - M) * p2 (N - M)) * sTop f n M ∧ sSide f n N = (p2 (N - M) * p2 (N - M)) * sSide f n M := by
  unfold sTop sSide
  rw [← tsum_mul, ← tsum_mul]
  exact ⟨tsum_congr fun i hi => (n_lift (h i hi) h').1, tsum_congr fun i hi => (n_lift (h i hi) h').2⟩
def HeAt (f : Nat → A5) (n : Nat) (x y z M : Int) : Prop := x * (p2 M * p2 M) = sTop f n M * z ∧ y * (p2 M * p2 M) = sSide f n M * z
structure He (f : Nat → A5) (n : Nat) (x y z : Int) : Prop where
  pos : 0 < z
  cop : Cop x y z
  eq : ∀ M, 0 ≤ M → (∀ w, w < n → (f w).2 ≤ M) → HeAt f n x y z M
theorem HeAt.move {f : Nat → A5} {n : Nat} {x y z M N : Int} (h0 : 0 ≤ M) (h : ∀ w, w < n → (f w).2 ≤ M) (h' : M ≤ N) : HeAt f n x y z M ↔ HeAt f n x y z N := by
  obtain ⟨e1, e2⟩ := s_lift h h'
  have e : p2 N = p2 (N - M) * p2 M := by rw [← p2_add (by omega) h0]; congr 1; omega
  have q0 : p2 (N - M) * p2 (N - M) ≠ 0 := Int.mul_ne_zero (p2_ne _) (p2_ne _)
  unfold HeAt
  rw [e1, e2, e]
  generalize p2 (N - M) = q at *
  constructor
  · rintro ⟨a, b⟩
    constructor <;> grind
  · rintro ⟨a, b⟩
    constructor
    · apply can q0
      grind
    · apply can q0
      grind
theorem He.of {f : Nat → A5} {n : Nat} {x y z M : Int} (pos : 0 < z) (cop : Cop x y z) (h0 : 0 ≤ M) (h : ∀ w, w < n → (f w).2 ≤ M) (e : HeAt f n x y z M) : He f n x y z := by
  refine ⟨pos, cop, fun N n0 hN => ?_⟩
  rcases Int.le_total M N with l | l
  · exact (HeAt.move h0 h l).mp e
  · exact (HeAt.move n0 hN l).mpr e
theorem bound {f : Nat → A5} : ∀ n : Nat, ∃ M : Int, 0 ≤ M ∧ ∀ w, w < n → (f w).2 ≤ M
  | 0 => ⟨0, Int.le_refl 0, fun w h => absurd h (Nat.not_lt_zero w)⟩
  | n + 1 => by
    obtain ⟨M, m0, h⟩ := bound (f := f) n
    refine ⟨max M (f n).2, by omega, fun w hw => ?_⟩
    by_cases e : w = n
    · subst e; omega
    · have := h w (by omega); omega
theorem He.unique {f g : Nat → A5} {n : Nat} {x y z x' y' z' : Int} (a : He f n x y z) (b : He g n x' y' z') (e : ∃ M0, ∀ M, M0 ≤ M → sTop f n M = sTop g n M ∧ sSide f n M = sSide g n M) : x = x' ∧ y = y' ∧ z = z' := by
  obtain ⟨M0, e⟩ := e
  obtain ⟨M1, m1, h1⟩ := bound (f := f) n
  obtain ⟨M2, m2, h2⟩ := bound (f := g) n
  let M := max M0 (max M1 M2)
  have k0 : M0 ≤ M := Int.le_max_left _ _
  have k1 : M1 ≤ M := Int.le_trans (Int.le_max_left _ _) (Int.le_max_right _ _)
  have k2 : M2 ≤ M := Int.le_trans (Int.le_max_right _ _) (Int.le_max_right _ _)
  obtain ⟨a1, a2⟩ := a.eq M (by omega) fun w hw => Int.le_trans (h1 w hw) k1
  obtain ⟨b1, b2⟩ := b.eq M (by omega) fun w hw => Int.le_trans (h2 w hw) k2
  obtain ⟨e1, e2⟩ := e M k0
  rw [e1] at a1
  rw [e2] at a2
  have q0 : p2 M * p2 M ≠ 0 := Int.mul_ne_zero (p2_ne _) (p2_ne _)
  generalize sTop g n M = T at *
  generalize sSide g n M = R at *
  generalize p2 M * p2 M = q at *
  refine Low.unique a.pos b.pos a.cop b.cop ?_ ?_
  · apply can q0
    have : q * (x' * z) = x' * q * z := by grind
    rw [this, b1]
    have : q * (x * z') = x * q * z' := by grind
    rw [this, a1]
    grind
  · apply can q0
    have : q * (y' * z) = y' * q * z := by grind
    rw [this, b2]
    have : q * (y * z') = y * q * z' := by grind
    rw [this, a2]
    grind
theorem s_led {f g : Nat → A5} {n : Nat} {t : Nat → Nat} {k : Nat → Int} (h1 : ∀ i, i < n → t i < n) (h2 : ∀ i, i < n → t (t i) = i) (e : ∀ i, i < n → g i = spin (f (t i)) (k i)) (M : Int) : sTop g n M = sTop f n M ∧ sSide g n M = sSide f n M := by
  unfold sTop sSide
  rw [tsum_congr (F := fun w => nTop (g w) M) (G := fun w => nTop (f (t w)) M) fun i hi => by rw [e i hi]; exact n_spin.1,
    tsum_congr (F := fun w => nSide (g w) M) (G := fun w => nSide (f (t w)) M) fun i hi => by rw [e i hi]; exact n_spin.2]
  exact ⟨tsum_inv (F := fun w => nTop (f w) M) h1 h2, tsum_inv (F := fun w => nSide (f w) M) h1 h2⟩
end Hw

set_option maxHeartbeats 4000000
namespace K25
open PySem PySem.Spec PyProof.Rows L2 Am Pc Ba K14 K15n Hw
abbrev T3 (x y z : Int) : HO := .tup [.int x, .int y, .int z]
def spMirror : Sp := fun vs H Q _ => ∃ (p : Addr) (a b c d h : Int), vs = [.ref p] ∧ H p = some (T5 a b c d h) ∧ ∀ (r : Addr) (H' : Hp), Same H H' → H' r = some (T5 a (-d) (-c) (-b) h) → Q (.ref r) H'
def spGcd : Sp := fun vs H Q _ => ∃ a b : Int, vs = [.int a, .int b] ∧ 0 ≤ a ∧ 0 ≤ b ∧ Q (.int (Int.gcd a b : Nat)) H
def spShare : Sp := fun vs H Q _ => ∃ t r b : Int, vs = [.int t, .int r, .int b] ∧ b ≠ 0 ∧ Sz 9000 b ∧ ∀ (p : Addr) (H' : Hp) (x y z : Int), Same H H' → H' p = some (T3 x y z) → Low t r b x y z → Q (.ref p) H'
def spReal (K : PySem.W.Frag) : Sp := fun vs H Q _ => ∃ (p : Addr) (a b c d h : Int), vs = [.ref p] ∧ SqT K H p [.int a, .int b, .int c, .int d, .int h] ∧ c = 0 ∧ d = -b ∧ 0 ≤ h ∧ h ≤ 8000 ∧ ∀ (r : Addr) (H' : Hp) (x y z : Int), Same H H' → H' r = some (T3 x y z) → Low a b (p2 h) x y z → Q (.ref r) H'
def spHeft : Sp := fun vs H Q _ => ∃ (l : Addr) (ps : List Addr) (f : Nat → A5) (c n m : Nat), vs = [.ref l] ∧ Bd H l ps f c n m ∧ c ≤ 6 ∧ n ≤ 10000 ∧ m ≤ 1500 ∧ ∀ (r : Addr) (H' : Hp) (x y z : Int), Same H H' → H' r = some (T3 x y z) → He f (2 ^ c) x y z → Sz 500000 x → Sz 500000 y → Sz 500000 z → Q (.ref r) H'
def spScaled : Sp := fun vs H Q _ => ∃ (l p : Addr) (ps : List Addr) (f : Nat → A5) (c n m : Nat) (y : A5), vs = [.ref l, .ref p] ∧ Bd H l ps f c n m ∧ c ≤ 6 ∧ n ≤ 10000 ∧ m ≤ 1500 ∧ H p = some (tA y) ∧ Ok5 n m y ∧ ∀ (r : Addr) (H' : Hp) (qs : List Addr) (g : Nat → A5), H r = none → Same H H' → H' r = some (.lst (qs.map V.ref)) → qs.length = 2 ^ c → Vals5 H' qs g → (∀ i, i < 2 ^ c → IsP (f i) y (g i)) → Q (.ref r) H'
theorem shl1 (h : Int) : (1 : Int) * 2 ^ h.toNat = p2 h := by unfold p2; rw [Int.one_mul]
theorem szp {n : Nat} {h : Int} (hn : h.toNat + 1 ≤ n) : Sz n (p2 h) := (sz_pow h.toNat).mono hn
theorem abs_if (i : Int) : (if i < 0 then -i else i) = (i.natAbs : Int) := by split <;> omega
theorem gcd_abs (t r b : Int) : Int.gcd ((Int.gcd (b.natAbs : Int) (r.natAbs : Int) : Nat) : Int) (t.natAbs : Int) = Nat.gcd (Nat.gcd t.natAbs r.natAbs) b.natAbs := by
  simp only [Int.gcd, Int.natAbs_natCast]
  exact gcd_order _ _ _
theorem gcd_step {a b : Int} (h0 : 0 ≤ a) (hb : 0 < b) : Int.gcd b (a % b) = Int.gcd a b := by
  have e : (a % b).natAbs = a.natAbs % b.natAbs := by
    obtain ⟨m, rfl⟩ : ∃ m : Nat, a = m := ⟨a.natAbs, by omega⟩
    obtain ⟨n, rfl⟩ : ∃ n : Nat, b = n := ⟨b.natAbs, by omega⟩
    rw [← Int.natCast_emod, Int.natAbs_natCast, Int.natAbs_natCast, Int.natAbs_natCast]
  show Nat.gcd b.natAbs (a % b).natAbs = Nat.gcd a.natAbs b.natAbs
  rw [e, Nat.gcd_comm a.natAbs, Nat.gcd_rec b.natAbs a.natAbs, Nat.gcd_comm]
structure Tot (f : Nat → A5) (m n i : Nat) (a b c d h : Int) : Prop where
  h0 : 0 ≤ h
  hm : h ≤ 2 * m
  ta : a * p2 (4 * m - h) = sTop f i (2 * m)
  tb : b * p2 (4 * m - h) = sSide f i (2 * m)
  tc : c = 0
  td : d = -b
  sz : Sz4 (2 * n + 4 + i * (4 * m + 2)) a b c d
theorem Tot.step {f : Nat → A5} {m n i : Nat} {a b c d h A B C D hh x y z u g a' b' c' d' h' : Int} (t : Tot f m n i a b c d h) (e : f i = ((A, B, C, D), hh)) (g0 : 0 ≤ hh) (gm : hh ≤ m) (pr : Prod4 A B C D hh A (-D) (-C) (-B) hh x y z u g) (sm : Sum a b c d h x y z u g a' b' c' d' h') (sz : Sz4 (2 * n + 4 + i * (4 * m + 2) + h.toNat + g.toNat + 2) a' b' c' d') : Tot f m n (i + 1) a' b' c' d' h' := by
  have h0 := t.h0
  have hm := t.hm
  have gn := pr.amt.nn
  have gl := pr.le
  have hn := sm.amt.nn
  have hl := sm.le
  have s := pr.same
  have r1 := (eq2_at (N := 4 * m) (by omega) gn (by omega) (by omega)).mp s.e1
  have r2 := (eq2_at (N := 4 * m) (by omega) gn (by omega) (by omega)).mp s.e2
  have r3 := (eq2_at (N := 4 * m) (by omega) gn (by omega) (by omega)).mp s.e3
  have r4 := (eq2_at (N := 4 * m) (by omega) gn (by omega) (by omega)).mp s.e4
  have q := sm.same
  have q1 := (eq2_at (N := 4 * m) (by omega) hn (by omega) (by omega)).mp q.e1
  have q2 := (eq2_at (N := 4 * m) (by omega) hn (by omega) (by omega)).mp q.e2
  have q3 := (eq2_at (N := 4 * m) (by omega) hn (by omega) (by omega)).mp q.e3
  have q4 := (eq2_at (N := 4 * m) (by omega) hn (by omega) (by omega)).mp q.e4
  have w1 : p2 (4 * m - (hh + hh)) = p2 (2 * m - hh) * p2 (2 * m - hh) := by rw [← p2_add (by omega) (by omega)]; congr 1; omega
  have w2 : p2 (4 * m - h) = p2 (4 * m - (h + g)) * p2 g := by rw [← p2_add (by omega) (by omega)]; congr 1; omega
  have w3 : p2 (4 * m - g) = p2 (4 * m - (h + g)) * p2 h := by rw [← p2_add (by omega) (by omega)]; congr 1; omega
  have n1 := nTop_eq (f i) (2 * m)
  have n2 := nSide_eq (f i) (2 * m)
  rw [e] at n1 n2
  simp only at n1 n2
  have n0 := p2_ne (4 * m - h')
  have ta := t.ta
  have tb := t.tb
  have tc := t.tc
  have td := t.td
  have X1 : x * p2 (4 * m - g) = nTop ((A, B, C, D), hh) (2 * m) := by rw [← r1, n1, w1]; unfold tt; grind
  have X2 : y * p2 (4 * m - g) = nSide ((A, B, C, D), hh) (2 * m) := by rw [← r2, n2, w1]; unfold rr; grind
  have X3 : z * p2 (4 * m - g) = 0 := by rw [← r3]; grind
  have X4 : u * p2 (4 * m - g) = -nSide ((A, B, C, D), hh) (2 * m) := by rw [← r4, n2, w1]; unfold rr; grind
  have Y1 : a' * p2 (4 * m - h') = a * p2 (4 * m - h) + x * p2 (4 * m - g) := by rw [← q1, w2, w3]; grind
  have Y2 : b' * p2 (4 * m - h') = b * p2 (4 * m - h) + y * p2 (4 * m - g) := by rw [← q2, w2, w3]; grind
  have Y3 : c' * p2 (4 * m - h') = c * p2 (4 * m - h) + z * p2 (4 * m - g) := by rw [← q3, w2, w3]; grind
  have Y4 : d' * p2 (4 * m - h') = d * p2 (4 * m - h) + u * p2 (4 * m - g) := by rw [← q4, w2, w3]; grind
  refine ⟨hn, by omega, ?_, ?_, ?_, ?_, ?_⟩
  · rw [Y1, X1, ta, ← e]; rfl
  · rw [Y2, X2, tb, ← e]; rfl
  · rw [X3, tc] at Y3
    rcases Int.mul_eq_zero.mp (show c' * p2 (4 * m - h') = 0 by rw [Y3]; omega) with z | z
    · exact z
    · exact absurd z n0
  · apply Int.eq_of_mul_eq_mul_right n0
    rw [Y4, X4, td, Int.neg_mul b', Y2, X2]
    generalize nSide ((A, B, C, D), hh) (2 * m) = N
    rw [Int.neg_mul]
    omega
  · refine sz.mono ?_
    rw [Nat.add_mul]
    omega
theorem Tot.heft {f : Nat → A5} {m n N : Nat} {a b c d h x y z : Int} (t : Tot f m n N a b c d h) (hf : ∀ w, w < N → (f w).2 ≤ m) (l : Low a b (p2 h) x y z) : He f N x y z := by
  refine He.of (M := 2 * m) l.pos l.cop (by omega) (fun w hw => by have := hf w hw; omega) ?_
  obtain ⟨c1, c2⟩ := Low.cr l
  have h0 := t.h0
  have hm := t.hm
  have w : p2 (2 * m) * p2 (2 * m) = p2 (4 * m - h) * p2 h := by rw [← p2_add (by omega) (by omega), ← p2_add (by omega) (by omega)]; congr 1; omega
  unfold HeAt
  rw [w, ← t.ta, ← t.tb]
  constructor
  · have : x * (p2 (4 * m - h) * p2 h) = (x * p2 h) * p2 (4 * m - h) := by grind
    rw [this, c1]; grind
  · have : y * (p2 (4 * m - h) * p2 h) = (y * p2 h) * p2 (4 * m - h) := by grind
    rw [this, c2]; grind
section
variable {P : Program} {w : World} {K : PySem.W.Frag} {mg : Str → Option Value} {base : Heap} {k : Nat} {h : Heap}
theorem sc_mirror : FnScope ["one"] ["one"] (defScope (top 24)) := ⟨rfl, rfl, rfl, by decide +kernel, rfl, by decide +kernel, by decide +kernel⟩
theorem ok_mirror (F : FunAt K "mirror" (top 24) .none) (X : K.In h) (G : h.Ns mainGlobals mg) : Cal P w K mg base (k + 1) "mirror" ["one"] spMirror := by
  have nd := sc_mirror.nd
  refine F.cal X G sc_mirror (bnd1 fun _ _ _ _ _ _ _ => rfl) (fun vs H Q E h => ?_) (fun f cdv A outer s H vs Q E hr h => ?_)
  · obtain ⟨p, a, b, c, d, h, rfl, _⟩ := h; rfl
  obtain ⟨p, a, b, c, d, h, rfl, hp, q⟩ := h
  have S : SqT K H p [.int a, .int b, .int c, .int d, .int h] := SqT.of hp
  refine ⟨_, (@pss_one _ _ _ (ps_ret (@pe_tup _ _ _ _ _ (pa_cons (pe_ix ix_tup (pv 0) pe_int (fun _ _ => rfl)) (pa_cons (pe_un un_neg (pe_ix ix_tup (pv 0) pe_int (fun _ _ => rfl))) (pa_cons (pe_un un_neg (pe_ix ix_tup (pv 0) pe_int (fun _ _ => rfl))) (pa_cons (pe_un un_neg (pe_ix ix_tup (pv 0) pe_int (fun _ _ => rfl))) (pa_cons (pe_ix ix_tup (pv 0) pe_int (fun _ _ => rfl)) pa_nil)))))))), ?_⟩
  try dsimp only [cxK]
  refine ⟨_, rfl, p, _, _, _, rfl, rfl, S, rfl, _, rfl, p, _, _, _, rfl, rfl, S, rfl, _, rfl, _, rfl, p, _, _, _, rfl, rfl, S, rfl, _, rfl, _, rfl, p, _, _, _, rfl, rfl, S, rfl, _, rfl, _, rfl, p, _, _, _, rfl, rfl, S, rfl, t5, fun r hr => ?_⟩
  exact q r _ (same_new hr _) upd_same
theorem sc_gcd : FnScope ["one", "other", "rest"] ["one", "other"] (defScope (top 16)) := ⟨rfl, rfl, rfl, by decide +kernel, rfl, by decide +kernel, by decide +kernel⟩
theorem ok_gcd (F : FunAt K "common_divisor" (top 16) .none) (X : K.In h) (G : h.Ns mainGlobals mg) : Cal P w K mg base (k + 1) "common_divisor" ["one", "other"] spGcd := by
  have nd := sc_gcd.nd
  refine F.cal X G sc_gcd (bnd2 fun _ _ _ _ _ _ _ _ => rfl) (fun vs H Q E h => ?_) (fun f cdv A outer s H vs Q E hr h => ?_)
  · obtain ⟨a, b, rfl, _⟩ := h; rfl
  obtain ⟨a, b, rfl, ha, hb, q⟩ := h
  refine ⟨_, (@pss_cons _ _ _ _ _ (ps_while PassesOwn.never (pt_cmpR op_ne (pv 1) pe_int (nomark _))
      (@pss_cons _ _ _ _ _ (@ps_set _ _ 2 _ _ _ _ nd rfl (Or.inl rfl) (pe_op op_mod (pv 0) (pv 1)) rfl (.inl rfl))
      (@pss_cons _ _ _ _ _ (@ps_set _ _ 0 _ _ _ _ nd rfl (Or.inl rfl) (pv 1) rfl (.inl rfl))
      (@pss_one _ _ _ (@ps_set _ _ 1 _ _ _ _ nd rfl (Or.inl rfl) (pv 2) rfl (.inl rfl))))))
    (@pss_one _ _ _ (ps_ret (pv 0)))), ?_⟩
  try dsimp only [cxK]
  refine while_by (fun σ H' => H' = H ∧ ∃ a' b' r, σ = [some (.int a'), some (.int b'), r] ∧ 0 ≤ a' ∧ 0 ≤ b' ∧ Int.gcd a' b' = Int.gcd a b)
    (fun σ _ => match σ with | [_, some (.int b'), _] => b'.toNat | _ => 0) ⟨rfl, a, b, none, rfl, ha, hb, rfl⟩ ?_ ?_
  · rintro σ H' ⟨rfl, a', b', r, rfl, ha', hb', e⟩
    refine ⟨_, rfl, rfl, _, rfl, neI (fun c => ?_) (fun c => ?_)⟩
    · refine ⟨_, rfl, _, rfl, _, _, rfl, rfl, (by show 0 < b'; omega), ?_⟩
      refine ⟨_, rfl, _, rfl, ⟨rfl, b', a' % b', some (.int (a' % b')), rfl, hb', Int.emod_nonneg _ c, ?_⟩, ?_⟩
      · rw [gcd_step ha' (by omega)]; exact e
      · show (a' % b').toNat < b'.toNat
        have := Int.emod_lt_of_pos a' (show 0 < b' by omega)
        have := Int.emod_nonneg a' c
        omega
    · subst c
      refine ⟨_, rfl, ?_⟩
      rw [Int.gcd_zero_right] at e
      have e' : (a' : Int) = (Int.gcd a b : Nat) := by omega
      show Q (.int a') H'
      rw [e']; exact q
  · rintro σ H1 Q1 Q2 hq ⟨v, e, s1, k1, e1, q1⟩
    exact ⟨v, e, s1, k1, e1, hq _ _ q1⟩
theorem sc_share : FnScope ["top", "root", "bottom", "common"] ["top", "root", "bottom"] (defScope (top 15)) := ⟨rfl, rfl, rfl, by decide +kernel, rfl, by decide +kernel, by decide +kernel⟩
theorem binds_share {D : Addr} {oc : Value} {od : Option Addr} {n : Nat} {sl : Array (Option Value)} {t0 t1 : Tok} (l : K.lookup D = some ⟨oc, od, .seq #[.int 0 t0, .int 1 t1] n, sl⟩) : BindsAll K "share" (top 15) (.ref D) ["top", "root", "bottom"] := by
  intro kV doc pm an cdv ct s us X hl
  match us, hl with
  | [a, b, c], _ => exact BindsTo.of_defaults rfl (X _ _ l) rfl rfl rfl
theorem ok_share {dV : Value} (F : FunAt K "share" (top 15) dV) (bi : BindsAll K "share" (top 15) dV ["top", "root", "bottom"]) (X : K.In h) (G : h.Ns mainGlobals mg) (B : Bs mg) (c_is_whole : Cal P w K mg base k "is_whole" ["thing"] spWhole) (c_common_divisor : Cal P w K mg base k "common_divisor" ["one", "other"] spGcd) :
    Cal P w K mg base (k + 1) "share" ["top", "root", "bottom"] spShare := by
  have nd := sc_share.nd
  refine F.cal X G sc_share bi (fun vs H Q E h => ?_) (fun f cdv A outer s H vs Q E hr h => ?_)
  · obtain ⟨t, r, b, rfl, _⟩ := h; rfl
  obtain ⟨t, r, b, rfl, hb, hz, q⟩ := h
  refine ⟨_, (@pss_cons _ _ _ _ _ (ps_if (pt_not (PW.pt (pw_and (pt_val (pe_cal c_is_whole hr rfl (pa_cons (pv 0) pa_nil))) (pw_and (pt_val (pe_cal c_is_whole hr rfl (pa_cons (pv 1) pa_nil))) (pw_and1 (pt_val (pe_cal c_is_whole hr rfl (pa_cons (pv 2) pa_nil))))))))
      (@pss_one _ _ _ ps_never)
      pss_nil)
    (@pss_cons _ _ _ _ _ (ps_if (pt_cmpR op_eq (pv 2) pe_int (nomark _))
      (@pss_one _ _ _ ps_never)
      pss_nil)
    (@pss_cons _ _ _ _ _ (@ps_set _ _ 3 _ _ _ _ nd rfl (Or.inl rfl) (pe_cal c_common_divisor hr rfl (pa_cons (pe_cal c_common_divisor hr rfl (pa_cons (pe_callB call_abs rfl B.abs boot_abs (pa_cons (pv 2) pa_nil)) (pa_cons (pe_callB call_abs rfl B.abs boot_abs (pa_cons (pv 1) pa_nil)) pa_nil))) (pa_cons (pe_callB call_abs rfl B.abs boot_abs (pa_cons (pv 0) pa_nil)) pa_nil))) rfl (.inl rfl))
    (@pss_cut _ _ _ _ _ (ps_if (pt_cmpR op_lt (pv 2) pe_int (nomark _))
      (@pss_one _ _ _ (@ps_set _ _ 3 _ _ _ _ nd rfl (Or.inl rfl) (pe_un un_neg (pv 3)) rfl (.inl rfl)))
      pss_nil)
    (@pss_one _ _ _ (ps_ret (@pe_tup _ _ _ _ _ (pa_cons (pe_op op_fdivS (pv 0) (pv 3)) (pa_cons (pe_op op_fdivS (pv 1) (pv 3)) (pa_cons (pe_op op_fdivS (pv 2) (pv 3)) pa_nil)))))))))), ?_⟩
  try dsimp only [cxK]
  refine ⟨_, rfl, _, rfl, _, rfl, iteT ⟨_, rfl, _, rfl, _, rfl, iteT ⟨_, rfl, _, rfl, _, rfl, iteF ?_⟩⟩⟩
  refine ⟨_, rfl, rfl, _, rfl, eqI (fun c => absurd c hb) (fun _ => ?_)⟩
  refine ⟨_, rfl, _, rfl, _, rfl, _, rfl, _, _, rfl, (by rw [abs_if]; omega), (by rw [abs_if]; omega), _, rfl, _, rfl, _, _, rfl, by omega, (by rw [abs_if]; omega), ?_⟩
  rw [abs_if, abs_if, abs_if, gcd_abs]
  generalize hG : Nat.gcd (Nat.gcd t.natAbs r.natAbs) b.natAbs = g
  have fin : ∀ c : Int, c = (if b < 0 then -(g : Int) else g) → (tRet (tTup (tCons (tOp (rI CDivS fun i j => .int (i.fdiv j)) (tVar 0) (tVar 3)) (tCons (tOp (rI CDivS fun i j => .int (i.fdiv j)) (tVar 1) (tVar 3)) (tCons (tOp (rI CDivS fun i j => .int (i.fdiv j)) (tVar 2) (tVar 3)) tNil)))))
      { nx := fun _ H' => Q .non H', rt := Q } [some (.int t), some (.int r), some (.int b), some (.int c)] H := by
    intro c hc
    have hg0 : 0 < g := by rw [← hG]; exact gcd_pos (by omega)
    have hgb : g ≤ b.natAbs := by rw [← hG]; exact Nat.gcd_le_right _ (by omega)
    have hc0 : c ≠ 0 := by rw [hc]; split <;> omega
    have hcz : Sz 9000 c := hz.le (by rw [hc]; split <;> omega)
    have hlow := low_div (t := t) (r := r) hb hG.symm hc
    refine ⟨_, rfl, _, rfl, _, _, rfl, rfl, ⟨hc0, hcz⟩, _, rfl, _, rfl, _, _, rfl, rfl, ⟨hc0, hcz⟩, _, rfl, _, rfl, _, _, rfl, rfl, ⟨hc0, hcz⟩, t3, fun p hp => ?_⟩
    exact q p _ _ _ _ (same_new hp _) upd_same hlow
  refine ⟨fun σ H' => H' = H ∧ σ = [some (.int t), some (.int r), some (.int b), some (.int (if b < 0 then -(g : Int) else g))], ⟨_, rfl, _, _, rfl, rfl, _, rfl, decI (fun c => ?_) (fun c => ?_)⟩, ?_⟩
  · refine ⟨_, rfl, _, rfl, rfl, ?_⟩
    rw [if_pos c]; rfl
  · refine ⟨rfl, ?_⟩
    rw [if_neg c]; rfl
  rintro σ H' ⟨rfl, rfl⟩
  exact fin _ rfl
theorem sc_real : FnScope ["one"] ["one"] (defScope (top 25)) := ⟨rfl, rfl, rfl, by decide +kernel, rfl, by decide +kernel, by decide +kernel⟩
theorem ok_real (F : FunAt K "real_share" (top 25) .none) (X : K.In h) (G : h.Ns mainGlobals mg) (c_share : Cal P w K mg base k "share" ["top", "root", "bottom"] spShare) : Cal P w K mg base (k + 1) "real_share" ["one"] (spReal K) := by
  have nd := sc_real.nd
  refine F.cal X G sc_real (bnd1 fun _ _ _ _ _ _ _ => rfl) (fun vs H Q E h => ?_) (fun f cdv A outer s H vs Q E hr h => ?_)
  · obtain ⟨p, a, b, c, d, h, rfl, _⟩ := h; rfl
  obtain ⟨p, a, b, c, d, h, rfl, S, c0, d0, h0, h4, q⟩ := h
  refine ⟨_, (@pss_cons _ _ _ _ _ (ps_if (PW.pt (pw_or (pt_cmpR op_ne (pe_ix ix_tup (pv 0) pe_int (fun _ _ => rfl)) pe_int (nomark _)) (pw_or1 (pt_cmpR op_ne (pe_ix ix_tup (pv 0) pe_int (fun _ _ => rfl)) (pe_un un_neg (pe_ix ix_tup (pv 0) pe_int (fun _ _ => rfl))) (nomark _)))))
      (@pss_one _ _ _ ps_never)
      pss_nil)
    (@pss_one _ _ _ (ps_ret (pe_cal c_share hr rfl (pa_cons (pe_ix ix_tup (pv 0) pe_int (fun _ _ => rfl)) (pa_cons (pe_ix ix_tup (pv 0) pe_int (fun _ _ => rfl)) (pa_cons (pe_op op_shlS pe_int (pe_ix ix_tup (pv 0) pe_int (fun _ _ => rfl))) pa_nil))))))), ?_⟩
  try dsimp only [cxK]
  refine ⟨_, rfl, p, _, _, _, rfl, rfl, S, rfl, rfl, _, rfl, neI (fun z => absurd c0 z) (fun _ => ?_)⟩
  refine ⟨_, rfl, p, _, _, _, rfl, rfl, S, rfl, _, rfl, p, _, _, _, rfl, rfl, S, rfl, _, rfl, rfl, _, rfl, neI (fun z => absurd d0 z) (fun _ => ?_)⟩
  refine ⟨_, rfl, p, _, _, _, rfl, rfl, S, rfl, _, rfl, p, _, _, _, rfl, rfl, S, rfl, _, rfl, p, _, _, _, rfl, rfl, S, rfl, _, _, rfl, rfl, ⟨1, sz1, by omega, by omega⟩, a, b, p2 h, ?_, Int.ne_of_gt (p2p h), szp (by omega), fun r H' x y z s' e' l' => q r H' x y z s' e' l'⟩
  show [V.int a, V.int b, V.int (1 * 2 ^ h.toNat)] = _
  rw [shl1]
theorem sc_heft : FnScope ["board", "total", "one"] ["board"] (defScope (top 38)) := ⟨rfl, rfl, rfl, by decide +kernel, rfl, by decide +kernel, by decide +kernel⟩
theorem ok_heft {aZ : Addr} (gZ : mg "NOUGHT" = some (.ref aZ)) (kZ : ∀ H, SqT K H aZ ([0, 0, 0, 0, 0].map V.int)) (F : FunAt K "heft" (top 38) .none) (X : K.In h) (G : h.Ns mainGlobals mg) (c_plus : Cal P w K mg base k "plus" ["one", "other"] (spPlusK K)) (c_times : Cal P w K mg base k "times" ["one", "other"] spTimes) (c_mirror : Cal P w K mg base k "mirror" ["one"] spMirror) (c_real_share : Cal P w K mg base k "real_share" ["one"] (spReal K)) : Cal P w K mg base (k + 1) "heft" ["board"] spHeft := by
  have nd := sc_heft.nd
  refine F.cal X G sc_heft (bnd1 fun _ _ _ _ _ _ _ => rfl) (fun vs H Q E h => ?_) (fun fa cdv A outer s H vs Q E hr h => ?_)
  · obtain ⟨l, ps, f, c, n, m, rfl, _⟩ := h; rfl
  obtain ⟨l, ps, f, c, n, m, rfl, BD, c6, n1, m1, q⟩ := h
  have p6 := pow6 c6
  have lps : (ps.map V.ref).length = 2 ^ c := by rw [List.length_map, BD.len]
  refine ⟨_, (@pss_cons _ _ _ _ _ (@ps_set _ _ 1 _ _ _ _ nd rfl (Or.inl rfl) (pe_glob (v := .ref aZ) rfl gZ rfl) rfl (.inl rfl))
    (@pss_cons _ _ _ _ _ (ps_for PassesOwn.never rfl (pi_list (pv 0)) (pg_name (i := 2) nd rfl (Or.inl rfl))
      (@pss_one _ _ _ (@ps_set _ _ 1 _ _ _ _ nd rfl (Or.inl rfl) (pe_cal c_plus hr rfl (pa_cons (pv 1) (pa_cons (pe_cal c_times hr rfl (pa_cons (pv 2) (pa_cons (pe_cal c_mirror hr rfl (pa_cons (pv 2) pa_nil)) pa_nil))) pa_nil))) rfl (.inl rfl))))
    (@pss_one _ _ _ (ps_ret (pe_cal c_real_share hr rfl (pa_cons (pv 1) pa_nil)))))), ?_⟩
  try dsimp only [cxK]
  refine ⟨_, rfl, l, rfl, ⟨_, SqL.of BD.lst⟩, for_list (K := K) (a := l) (xs := ps.map V.ref) (fun i σ H' => Same H H' ∧ ∃ (p : Addr) (a b c d h : Int) (v : Option V), SqT K H' p [.int a, .int b, .int c, .int d, .int h] ∧ Tot f m n i a b c d h ∧ σ = [some (.ref l), some (.ref p), v]) ⟨Same.refl _, aZ, 0, 0, 0, 0, 0, none, kZ H, ⟨Int.le_refl 0, by omega, ?_, ?_, rfl, rfl, ?_⟩, rfl⟩ (fun i σ H' _ e => e.1.seq (SqL.of BD.lst)) ?_ ?_⟩
  · show 0 * p2 (4 * m - 0) = 0
    omega
  · show 0 * p2 (4 * m - 0) = 0
    omega
  · have z0 : Sz (2 * n + 4 + 0 * (4 * m + 2)) 0 := Nat.two_pow_pos _
    exact ⟨z0, z0, z0, z0⟩
  · rintro i x σ H1 hx ⟨S1, p, a, b, c', d, h, v, SP, T, rfl⟩
    rw [List.getElem?_map] at hx
    obtain ⟨pi, hp, rfl⟩ := Option.map_eq_some_iff.mp hx
    have hi : i < 2 ^ c := by
      have := (List.getElem?_eq_some_iff.mp hp).1
      rw [BD.len] at this
      exact this
    have p0 := S1 _ _ (BD.vals i pi hp)
    have ok := BD.ok i hi
    have im : i * (4 * m + 2) ≤ 63 * (4 * m + 2) := Nat.mul_le_mul_right _ (by omega)
    rcases hf : f i with ⟨⟨A1, B1, C1, D1⟩, hh⟩
    rw [hf] at p0 ok
    have o0 : 0 ≤ hh := ok.amt.nn
    have om : hh ≤ m := ok.le
    have oz : Sz4 n A1 B1 C1 D1 := ok.sz
    have t0 := T.h0
    have tm := T.hm
    refine ⟨_, rfl, _, rfl, _, rfl, pi, _, _, _, _, _, rfl, p0, fun r H2 s2 e2 => ?_⟩
    refine ⟨n, pi, r, A1, B1, C1, D1, hh, A1, -D1, -C1, -B1, hh, ⟨rfl, s2 _ _ p0, e2, o0, o0, by omega, by omega, oz, ⟨oz.z1, oz.z4.neg, oz.z3.neg, oz.z2.neg⟩⟩, fun r2 H3 x y z u g s3 e3 pr pz => ?_⟩
    have gn := pr.amt.nn
    have gl := pr.le
    refine ⟨2 * n + 4 + i * (4 * m + 2), p, r2, a, b, c', d, h, x, y, z, u, g, ⟨rfl, (s2.trans s3).tup SP, e3, t0, gn, by omega, by omega, T.sz, pz.mono (by omega)⟩, fun r3 H4 x' y' z' u' g' s4 e4 sm sz => ?_⟩
    exact ⟨(S1.trans s2).trans (s3.trans s4), r3, _, _, _, _, _, _, SqT.of e4, T.step hf o0 om pr sm sz, rfl⟩
  · rintro σ H1 ⟨S1, p, a, b, c', d, h, v, SP, T, rfl⟩
    rw [lps] at T
    have t0 := T.h0
    have tm := T.hm
    have cm : 2 ^ c * (4 * m + 2) ≤ 64 * (4 * m + 2) := Nat.mul_le_mul_right _ p6
    refine ⟨_, rfl, p, a, b, c', d, h, rfl, SP, T.tc, T.td, t0, by omega, fun r H2 x y z s2 e2 lo => ?_⟩
    obtain ⟨z1, z2, z3⟩ := lo.sizes
    exact q r H2 x y z (S1.trans s2) e2 (T.heft (fun w hw => (BD.ok w hw).le) lo) ((T.sz.z1.le z1).mono (by omega)) ((T.sz.z2.le z2).mono (by omega)) ((szp (n := 500000) (h := h) (by omega)).le z3)
theorem sc_scaled : FnScope ["board", "one"] ["board", "one"] (defScope (top 39)) := ⟨rfl, rfl, rfl, by decide +kernel, rfl, by decide +kernel, by decide +kernel⟩
theorem ok_scaled (F : FunAt K "scaled" (top 39) .none) (X : K.In h) (G : h.Ns mainGlobals mg) (c_times : Cal P w K mg base k "times" ["one", "other"] spTimes) : Cal P w K mg base (k + 1) "scaled" ["board", "one"] spScaled := by
  have nd := sc_scaled.nd
  refine F.cal X G sc_scaled (bnd2 fun _ _ _ _ _ _ _ _ => rfl) (fun vs H Q E h => ?_) (fun fa cdv A outer s H vs Q E hr h => ?_)
  · obtain ⟨l, p, ps, f, c, n, m, y, rfl, _⟩ := h; rfl
  obtain ⟨l, p, ps, f, c, n, m, y, rfl, BD, c6, n1, m1, hp, oy, q⟩ := h
  refine ⟨_, (@pss_one _ _ _ (ps_ret (pe_lc rfl (LcOk.of (Nc := ["each", "one"]) (mp := [none, some 1]) (by kernel_rfl)) (pi_list (pv 0)) (fun _ _ _ _ => (pg_name (i := 0) (show (["each", "one"] : List Str).Nodup by decide +kernel) rfl (Or.inl rfl))) (fun _ _ _ _ => (pe_cal c_times hr rfl (pa_cons (pv 0) (pa_cons (pv 1) pa_nil))))))), ?_⟩
  try dsimp only [cxK]
  refine ⟨_, rfl, l, rfl, ⟨_, SqL.of BD.lst⟩, fun acc hacc => ?_⟩
  refine lc_board (K := K) (fr := [some (.ref p)]) (fun i z => IsP (f i) y z) BD c6 hacc (fun i pi H2 N e2 hi s2 kN => ?_) (fun H2 qs g s2 a2 ql v2 r2 => ?_)
  · have oi := BD.ok i hi
    refine ⟨_, rfl, _, rfl, n, pi, p, _, _, _, _, _, _, _, _, _, _, ⟨rfl, e2, s2 _ _ hp, oi.amt.nn, oy.amt.nn, ?_, by omega, oi.sz, oy.sz⟩, fun r H3 a b c' d h' s3 e3 pr pz => kN r H3 ((a, b, c', d), h') s3 e3 (Prod4.isP pr)⟩
    have := oi.le
    have := oy.le
    omega
  · exact q acc H2 qs g hacc s2 a2 ql v2 r2
end
end K25

set_option maxHeartbeats 4000000
namespace K25
open PySem PySem.Spec PyProof.Rows L2 Am Pc Ba K14 K15n Hw
def spMark : Sp := fun vs H Q _ => ∃ (l : Addr) (ps : List Addr) (f : Nat → A5) (wd : Nat) (m : Addr) (q fl s : Nat), vs = [.ref l, .int wd, .ref m] ∧ H l = some (.lst (ps.map V.ref)) ∧ Vals5 H ps f ∧ wd < ps.length ∧ H m = some (M3 q fl s) ∧
  ∀ (r : Addr) (H' : Hp), Same H H' → H' r = some (tA (spin (f wd) (2 * q + 4 * pc (wd &&& s)))) → Q (.ref r) H'
def spLaid : Sp := fun vs H Q _ => ∃ (l : Addr) (ps : List Addr) (f : Nat → A5) (c : Nat) (m : Addr) (q fl s : Nat), vs = [.ref l, .ref m] ∧ H l = some (.lst (ps.map V.ref)) ∧ Vals5 H ps f ∧ ps.length = 2 ^ c ∧ c ≤ 6 ∧ H m = some (M3 q fl s) ∧ fl < 2 ^ c ∧
  ∀ (r : Addr) (H' : Hp) (qs : List Addr), H r = none → Same H H' → H' r = some (.lst (qs.map V.ref)) → qs.length = 2 ^ c → Vals5 H' qs (fun v => spin (f (v ^^^ fl)) (2 * q + 4 * pc ((v ^^^ fl) &&& s))) → Q (.ref r) H'
theorem xor_back (x y : Nat) : (x ^^^ y) ^^^ y = x := by rw [Nat.xor_assoc, Nat.xor_self, Nat.xor_zero]
theorem laid_heft {f : Nat → A5} {c q fl s : Nat} (hf : fl < 2 ^ c) (M : Int) : sTop (fun v => spin (f (v ^^^ fl)) (2 * q + 4 * pc ((v ^^^ fl) &&& s))) (2 ^ c) M = sTop f (2 ^ c) M ∧ sSide (fun v => spin (f (v ^^^ fl)) (2 * q + 4 * pc ((v ^^^ fl) &&& s))) (2 ^ c) M = sSide f (2 ^ c) M :=
  s_led (t := fun v => v ^^^ fl) (k := fun v => 2 * q + 4 * pc ((v ^^^ fl) &&& s)) (fun i hi => xor_lt hi hf) (fun i _ => xor_back i fl) (fun _ _ => rfl) M
section
variable {P : Program} {w : World} {K : PySem.W.Frag} {mg : Str → Option Value} {base : Heap} {k : Nat} {h : Heap}
theorem vals_next {H H' : Hp} {ps : List Addr} {f : Nat → A5} {p : Addr} (v : Vals5 H ps f) (s : Same H H') (e : H' p = some (tA (f ps.length))) : Vals5 H' (ps ++ [p]) f := by
  intro i q hq
  by_cases hi : i < ps.length
  · rw [List.getElem?_append_left hi] at hq
    exact s _ _ (v i q hq)
  · rw [List.getElem?_append_right (by omega)] at hq
    have hi2 : i = ps.length := by
      have := (List.getElem?_eq_some_iff.mp hq).1
      simp at this
      omega
    subst hi2
    simp at hq
    subst hq
    exact e
theorem sc_ones : FnScope ["number", "many", "rest"] ["number"] (defScope (top 27)) := ⟨rfl, rfl, rfl, by decide +kernel, rfl, by decide +kernel, by decide +kernel⟩
theorem ok_ones (F : FunAt K "ones" (top 27) .none) (X : K.In h) (G : h.Ns mainGlobals mg) (B : Bs mg) : Cal P w K mg base (k + 1) "ones" ["number"] spOnes := by
  have nd := sc_ones.nd
  refine F.cal X G sc_ones (bnd1 fun _ _ _ _ _ _ _ => rfl) (fun vs H Q E h => ?_) (fun f cdv A outer s H vs Q E hr h => ?_)
  · obtain ⟨n, rfl, _⟩ := h; rfl
  obtain ⟨n, rfl, q⟩ := h
  refine ⟨_, (@pss_cons _ _ _ _ _ (@ps_set _ _ 1 _ _ _ _ nd rfl (Or.inl rfl) pe_int rfl (.inl rfl))
    (@pss_cons _ _ _ _ _ (@ps_set _ _ 2 _ _ _ _ nd rfl (Or.inl rfl) (pv 0) rfl (.inl rfl))
    (@pss_cons _ _ _ _ _ (ps_while PassesOwn.never (pt_cmpR op_ne (pv 2) pe_int (nomark _))
      (@pss_cons _ _ _ _ _ (@ps_set _ _ 2 _ _ _ _ nd rfl (Or.inl rfl) (pe_op op_and (pv 2) (pe_op op_sub (pv 2) pe_int)) rfl (.inl rfl))
      (@pss_one _ _ _ (@ps_set _ _ 1 _ _ _ _ nd rfl (Or.inl rfl) (pe_op op_add (pv 1) pe_int) rfl (.inl rfl)))))
    (@pss_one _ _ _ (ps_ret (pv 1)))))), ?_⟩
  try dsimp only [cxK]
  refine ⟨_, rfl, fun m σ H' => H' = H ∧ ∃ j r : Nat, m = pc r ∧ j + pc r = pc n ∧ σ = [some (.int n), some (.int j), some (.int r)], ⟨_, rfl, 0, n, rfl, Nat.zero_add _, rfl⟩, ?_⟩
  rintro m σ H' ⟨rfl, j, r, rfl, hj, rfl⟩
  refine ⟨_, rfl, rfl, _, rfl, neI (fun hr0 => ?_) (fun hr0 => ?_)⟩
  · have r0 : r ≠ 0 := by omega
    have e := pc_drop (r + 1) r (by omega) r0
    refine ⟨_, fun σ' H' x => x, ?_⟩
    refine ⟨_, rfl, _, rfl, _, _, rfl, rfl, _, _, rfl, rfl, ?_⟩
    refine ⟨_, rfl, _, _, rfl, rfl, ⟨pc (r &&& (r - 1)), by omega, rfl, j + 1, r &&& (r - 1), rfl, by omega, ?_⟩⟩
    have e2 : Builtin.bitAnd (r : Int) ((r : Int) - 1) = ((r &&& (r - 1) : Nat) : Int) := by rw [show (r : Int) - 1 = ((r - 1 : Nat) : Int) by omega, and_i]
    show [some (V.int n), some (V.int ((j : Int) + 1)), some (V.int (Builtin.bitAnd (r : Int) ((r : Int) - 1)))] = _
    rw [e2]
    rfl
  · have r0 : r = 0 := by omega
    subst r0
    rw [pc_zero, Nat.add_zero] at hj
    subst hj
    exact ⟨_, rfl, q⟩

theorem sc_smark : FnScope ["board", "word", "mark"] ["board", "word", "mark"] (defScope (top 41)) := ⟨rfl, rfl, rfl, by decide +kernel, rfl, by decide +kernel, by decide +kernel⟩
theorem ok_smark (F : FunAt K "spun_by_mark" (top 41) .none) (X : K.In h) (G : h.Ns mainGlobals mg) (c_spun : Cal P w K mg base k "spun" ["one", "k"] spSpun) (c_ones : Cal P w K mg base k "ones" ["number"] spOnes) : Cal P w K mg base (k + 1) "spun_by_mark" ["board", "word", "mark"] spMark := by
  have nd := sc_smark.nd
  refine F.cal X G sc_smark (bnd3 fun _ _ _ _ _ _ _ _ _ => rfl) (fun vs H Q E h => ?_) (fun f cdv A outer s H vs Q E hr h => ?_)
  · obtain ⟨l, ps, f, wd, m, q, fl, s, rfl, _⟩ := h; rfl
  obtain ⟨l, ps, f, wd, m, q, fl, s, rfl, hl, hv, hw, hm, kq⟩ := h
  have S : SqT K H m [.int q, .int fl, .int s] := SqT.of hm
  refine ⟨_, (@pss_one _ _ _ (ps_ret (pe_cal c_spun hr rfl (pa_cons (pe_ix ix_list (pv 0) (pv 1) (fun _ _ => rfl)) (pa_cons (pe_op op_add (pe_op op_mul pe_int (pe_ix ix_tup (pv 2) pe_int (fun _ _ => rfl))) (pe_op op_mul pe_int (pe_cal c_ones hr rfl (pa_cons (pe_op op_and (pv 1) (pe_ix ix_tup (pv 2) pe_int (fun _ _ => rfl))) pa_nil)))) pa_nil))))), ?_⟩
  try dsimp only [cxK]
  refine ⟨_, rfl, _, rfl, l, _, _, _, rfl, rfl, SqL.of hl, at_refs hw rfl, ?_⟩
  refine ⟨_, rfl, m, _, _, _, rfl, rfl, S, rfl, _, _, rfl, rfl, .inl ⟨by decide, by decide⟩, _, rfl, _, rfl, m, _, _, _, rfl, rfl, S, rfl, _, _, rfl, rfl, wd &&& s, one_and, _, _, rfl, rfl, .inl ⟨by decide, by decide⟩, _, _, rfl, rfl, ?_⟩
  exact ⟨_, _, _, _, _, _, _, rfl, hv wd _ (List.getElem?_eq_getElem hw), fun r H' s' e' => kq r H' s' e'⟩

theorem sc_laid : FnScope ["board", "mark"] ["board", "mark"] (defScope (top 40)) := ⟨rfl, rfl, rfl, by decide +kernel, rfl, by decide +kernel, by decide +kernel⟩
theorem ok_laid (F : FunAt K "laid_on" (top 40) .none) (X : K.In h) (G : h.Ns mainGlobals mg) (B : Bs mg) (c_spun_by_mark : Cal P w K mg base k "spun_by_mark" ["board", "word", "mark"] spMark) : Cal P w K mg base (k + 1) "laid_on" ["board", "mark"] spLaid := by
  have nd := sc_laid.nd
  refine F.cal X G sc_laid (bnd2 fun _ _ _ _ _ _ _ _ => rfl) (fun vs H Q E h => ?_) (fun f cdv A outer s H vs Q E hr h => ?_)
  · obtain ⟨l, ps, f, c, m, q, fl, s, rfl, _⟩ := h; rfl
  obtain ⟨l, ps, f, c, m, q, fl, s, rfl, hl, hv, len, c6, hm, hf, kq⟩ := h
  refine ⟨_, (@pss_one _ _ _ (ps_ret (pe_lc rfl (LcOk.of (Nc := ["word", "board", "mark"]) (mp := [none, some 0, some 1]) (by kernel_rfl)) (pi_range1 rfl B.range (pa_cons (pe_callB call_len_seq rfl B.len PySem.boot_len (pa_cons (pv 0) pa_nil)) pa_nil)) (fun _ _ _ _ => (pg_name (i := 0) (show (["word", "board", "mark"] : List Str).Nodup by decide +kernel) rfl (Or.inl rfl))) (fun _ _ _ _ => (pe_cal c_spun_by_mark hr rfl (pa_cons (pv 1) (pa_cons (pe_op op_xor (pv 0) (pe_ix ix_tupC (pv 2) pe_int (fun _ _ => rfl))) (pa_cons (pv 2) pa_nil)))))))), ?_⟩
  try dsimp only [cxK]
  have p6 := pow6 c6
  have hlen : (((ps.map V.ref).length : Nat) : Int).toNat = 2 ^ c := by rw [List.length_map, len, Int.toNat_natCast]
  refine ⟨_, rfl, l, _, rfl, .inl (SqL.of hl), _, rfl, by rw [List.length_map]; omega, by rw [List.length_map]; omega, fun acc hacc => ?_⟩
  refine lc_range (n := (((ps.map V.ref).length : Nat) : Int).toNat) (fr := [some (.ref l), some (.ref m)]) (fun i ys H' => ∃ qs : List Addr, Same H H' ∧ H' acc = some (.lst ys) ∧ ys = qs.map V.ref ∧ qs.length = i ∧ Vals5 H' qs (fun v => spin (f (v ^^^ fl)) (2 * q + 4 * pc ((v ^^^ fl) &&& s)))) (by rw [hlen]; exact t64 p6) ⟨[], same_new hacc _, upd_same, rfl, rfl, fun _ _ z => by cases z⟩ ?_ ?_
  · rintro i ys H2 N hi hy ⟨qs, s2, a2, rfl, hq, hv2⟩ kN
    rw [hlen] at hi
    have S : SqT K H2 m [.int q, .int fl, .int s] := SqT.of (s2 _ _ hm)
    refine ⟨_, rfl, _, rfl, _, rfl, m, _, _, _, rfl, rfl, S, rfl, _, _, rfl, rfl, _, rfl, l, ps, f, i ^^^ fl, m, q, fl, s, ?_, s2 _ _ hl, hv.same s2, (by rw [len]; exact xor_lt hi hf), s2 _ _ hm, fun r H3 s3 e3 => ?_⟩
    · show [V.ref l, V.int (Builtin.bitXor (0 + (i : Int)) fl), V.ref m] = _
      rw [Int.zero_add, xor_i]
    · refine kN (.ref r) H3 (s3 _ _ a2) ⟨qs ++ [r], same_upd (s2.trans s3) hacc, upd_same, by rw [List.map_append]; rfl, by simp [hq], ?_⟩
      refine vals_upd (xs := qs.map V.ref) ?_ (s3 _ _ a2)
      exact vals_next hv2 s3 (by rw [hq]; exact e3)
  · rintro ys H2 hy ⟨qs, s2, a2, rfl, hq, hv2⟩
    exact kq acc H2 qs hacc s2 a2 (by rw [hq, hlen]) hv2

theorem sc_markby : FnScope ["_law_cell", "_law_cells", "_law_mixed_up", "_law_size"] ["_law_cell", "_law_cells"] (defScope (top 52)) := ⟨rfl, rfl, rfl, by decide +kernel, rfl, by decide +kernel, by decide +kernel⟩
theorem ok_markby (F : FunAt K "_law_mark_by" (top 52) .none) (X : K.In h) (G : h.Ns mainGlobals mg) : Cal P w K mg base (k + 1) "_law_mark_by" ["_law_cell", "_law_cells"] spMarkBy := by
  have nd := sc_markby.nd
  refine F.cal X G sc_markby (bnd2 fun _ _ _ _ _ _ _ _ => rfl) (fun vs H Q E h => ?_) (fun f cdv A outer s H vs Q E hr h => ?_)
  · obtain ⟨c, n, rfl, _⟩ := h; rfl
  obtain ⟨c, n, rfl, hn, kq⟩ := h
  refine ⟨_, (@pss_cons _ _ _ _ _ (@ps_set _ _ 2 _ _ _ _ nd rfl (Or.inl rfl) (pe_op op_mod (pe_op op_mul (pv 0) pe_int) pe_int) rfl (.inl rfl))
    (@pss_cons _ _ _ _ _ (@ps_set _ _ 3 _ _ _ _ nd rfl (Or.inl rfl) (pe_op op_shlS pe_int (pv 1)) rfl (.inl rfl))
    (@pss_one _ _ _ (ps_ret (@pe_tup _ _ _ _ _ (pa_cons (pe_op op_mod (pv 2) pe_int) (pa_cons (pe_op op_mod (pe_op op_fdiv (pv 2) pe_int) (pv 3)) (pa_cons (pe_op op_mod (pe_op op_fdivS (pe_op op_fdiv (pv 2) pe_int) (pv 3)) (pv 3)) pa_nil)))))))), ?_⟩
  try dsimp only [cxK]
  have p6 := pow6 hn
  have p0 : 0 < 2 ^ n := Nat.two_pow_pos n
  have hN : (1 : Int) * 2 ^ ((n : Int).toNat) = ((2 ^ n : Nat) : Int) := ipow n
  have N0 : (0 : Int) < 1 * 2 ^ ((n : Int).toNat) := by rw [hN]; omega
  refine ⟨_, rfl, _, _, rfl, rfl, .inr ⟨by decide, by decide⟩, _, _, rfl, rfl, p_big, ?_⟩
  refine ⟨_, rfl, _, _, rfl, rfl, ⟨1, by decide +kernel, by omega, by omega⟩, ?_⟩
  refine ⟨_, rfl, _, _, rfl, rfl, p_4, _, rfl, _, _, rfl, rfl, ⟨by decide, by decide⟩, _, rfl, _, _, rfl, rfl, N0, ?_⟩
  refine ⟨_, rfl, _, _, rfl, rfl, ⟨by decide, by decide⟩, _, rfl, _, _, rfl, rfl, ⟨Int.ne_of_gt N0, ?_⟩, _, rfl, _, _, rfl, rfl, N0, (by show 3 ≤ sizeLine; decide), fun r hr => ?_⟩
  · rw [hN]
    exact (show Sz 7 ((2 ^ n : Nat) : Int) by unfold Sz; rw [Int.natAbs_natCast]; omega).mono (by decide)
  generalize hm : c * 48271 % 2147483647 = m
  have m0 : 0 ≤ m := by omega
  have d0 : 0 ≤ m / 4 := by omega
  have e1 : (m % 4).toNat < 4 := by omega
  have l1 : 0 ≤ m / 4 % ((2 ^ n : Nat) : Int) ∧ m / 4 % ((2 ^ n : Nat) : Int) < ((2 ^ n : Nat) : Int) := ⟨Int.emod_nonneg _ (by omega), Int.emod_lt_of_pos _ (by omega)⟩
  have l2 : 0 ≤ (m / 4).fdiv ((2 ^ n : Nat) : Int) % ((2 ^ n : Nat) : Int) ∧ (m / 4).fdiv ((2 ^ n : Nat) : Int) % ((2 ^ n : Nat) : Int) < ((2 ^ n : Nat) : Int) := ⟨Int.emod_nonneg _ (by omega), Int.emod_lt_of_pos _ (by omega)⟩
  refine kq r _ (m % 4).toNat (m / 4 % ((2 ^ n : Nat) : Int)).toNat ((m / 4).fdiv ((2 ^ n : Nat) : Int) % ((2 ^ n : Nat) : Int)).toNat (same_new hr _) ?_ e1 (by omega) (by omega)
  rw [upd_same]
  have t : ∀ z : Int, 0 ≤ z → ((z.toNat : Nat) : Int) = z := fun z hz => by omega
  show some (HO.tup [.int (m % 4), .int (m / 4 % (1 * 2 ^ ((n : Int).toNat))), .int ((m / 4).fdiv (1 * 2 ^ ((n : Int).toNat)) % (1 * 2 ^ ((n : Int).toNat)))]) = some (HO.tup [.int _, .int _, .int _])
  rw [hN, t _ (by omega), t _ l1.1, t _ l2.1]

end
end K25

set_option maxHeartbeats 4000000
/-! slices of lists with a step -/
namespace L2
open PySem PySem.Spec PyProof.Rows
section
variable {X : Cx} {e st : Expr} {lo hi : Option Expr} {te : TE} {tl th ts : TO} {p2 pos : Pos}
end
end L2

set_option maxHeartbeats 4000000
namespace HT
open PySem PySem.Spec PyProof.Rows
section
variable {prog : Program} {w : World} {A : Around} {E : Value → Shared → Prop} {s : Shared}
theorem getItem_tuple_all {t sl : Addr} {items : Array Value} {vl vu : Value} {lo hi : Option Int} {Q : Value → Shared → Prop} (ht : IsTup s.heap t items) (hs : s.heap.IsSliceOf sl vl vu .none) (pl : IsPart vl lo) (pu : IsPart vu hi)
    (h1 : sIx items.size 0 lo = 0) (h2 : sIx items.size items.size hi = items.size) (h : Q (.ref t) s) : wpAny (model prog w) A (getItem (.ref t) (.ref sl)) Q E s := by
  obtain ⟨os, hos, hcs, hds⟩ := id hs
  have ty : s.TypeIs (.ref sl) "slice" := ⟨os, hos, hcs⟩
  unfold getItem
  try with_reducible refine wpAny_holding ?_
  first | refine wpAny_bind (wpAny_pure ?_) | skip
  refine wpAny_bind (wpAny_sequenceKey ht.typeIs (by decide) (wpAny_bind (wpAny_callSpecial?_slot (name := Str.ofString "__getitem__") ht.typeIs PyProof.Rows.slot_tuple_getitem (wpAny_call_entry PyProof.Rows.slot_tuple_getitem ht.typeIs entry_tuple_getitem ?_ (args_tuple_getitem _ _)))))
  show wpAny _ _ (Builtin.Tuple.tupleItemsOf (.ref t) >>= _) _ _ s; refine wpAny_bind (tupleItemsOf_ ht (wpAny_bind (wpAny_typeOf ty ?_))); rw [if_pos (by decide)]
  refine wpAny_bind (sliceApplied_gen hs pl pu ?_)
  show wpAny _ _ (if (((sIx items.size 0 lo : Nat) : Int) == 0 && (1 : Int) == 1 && (sIx items.size items.size hi - sIx items.size 0 lo) == items.size) = true then _ else _) _ _ s; rw [if_pos (by rw [h1, h2]; simp)]
  refine wpAny_bind ?_
  unfold Builtin.Tuple.tupleIsExact
  refine wpAny_bind (wpAny_typeOf ht.typeIs (wpAny_pure ?_))
  rw [if_pos (by decide)]
  exact wpAny_bind (wpAny_rule (wpAny_pure ⟨_, rfl, wpAny_pure h⟩))
end
end HT
namespace L2
open PySem PySem.Spec PyProof.Rows
section
variable {X : Cx}
def rSlA (K : PySem.W.Frag) : V → Option Int → Option Int → Hp → VK → Prop := fun x lo hi H Q => ∃ a xs, x = .ref a ∧ SqT K H a xs ∧
  ((HT.sIx xs.length 0 lo = 0 ∧ HT.sIx xs.length xs.length hi = xs.length) ∧ Q (.ref a) H ∨ ¬ (HT.sIx xs.length 0 lo = 0 ∧ HT.sIx xs.length xs.length hi = xs.length) ∧ ∀ p, H p = none → Q (.ref p) (upd H p (.tup (cutV xs lo hi))))
theorem sl_tupA : SlR X (rSlA X.K) := by
  intro pins s σ H x v vl vu lo hi sl Q I rx hs pl pu h
  obtain ⟨a, xs, rfl, hx, ⟨hw, q⟩ | ⟨hw, q⟩⟩ := h
  · cases rx
    obtain ⟨its, r, ht, hz⟩ := I.tuple hx
    have hlen := r.length
    refine ⟨"tuple", _, slot_tuple_getitem.lookup, ht.typeIs, HT.getItem_tuple_all ht hs pl pu (by rw [List.size_toArray, ← hlen]; exact hw.1) (by rw [List.size_toArray, ← hlen]; exact hw.2) ⟨.ref a, H, I, rfl, q⟩⟩
  · exact sl_tup pins s σ H _ v vl vu lo hi sl Q I rx hs pl pu ⟨a, xs, rfl, hx, hw, q⟩
end
end L2

set_option maxHeartbeats 4000000
namespace L2
open PySem PySem.Spec PyProof.Rows
/-! a def that is called with fewer arguments, or by a keyword -/
structure CalD (P : Program) (w : World) (K : PySem.W.Frag) (mg : Str → Option Value) (base : Heap) (k : Nat) (x : Str) (ps : List Str) (sp : Sp) (dvs : List V) : Prop where
  ex : ∃ f fd ds, FnOk P w K mg base CX0 k f fd ps sp ∧ Binds K fd ps ds ∧ Vals dvs ds ∧ PySem.W.keepIn K (.ref f) = true ∧ mg x = some (.ref f)
theorem CalD.mono {P : Program} {w : World} {K : PySem.W.Frag} {mg : Str → Option Value} {base : Heap} {j k : Nat} {x : Str} {ps : List Str} {sp : Sp} {dvs : List V} (c : CalD P w K mg base j x ps sp dvs) (h : j ≤ k) : CalD P w K mg base k x ps sp dvs :=
  let ⟨f, fd, ds, F, b, v, kp, m⟩ := c.ex
  ⟨f, fd, ds, F.mono h, b, v, kp, m⟩
section
variable {X : Cx} {k : Nat} {x : Str} {ps ks : List Str} {sp : Sp} {p pos : Pos} {e : Expr} {es : List Expr} {t tk : TA} {dvs : List V} {gV : List V → List V → List V} {kws : List Keyword}
theorem pe_calD (c : CalD X.prog X.w X.K X.mg X.base k x ps sp dvs) (hr : Room k X.A) (hg : Gl X x) (ha : PA X (e :: es) t) (hdb : (x == ("__debug__" : Str)) = false := by decide)
    (he : starEach (e :: es) X.env = (false, eval e X.env) :: starEach es X.env := by rfl) (hpl : (backTo pos (starEach es X.env)).any (·.1) = false := by rfl) : PE X (.Call (.Name x p) (e :: es) [] pos) (tCall sp dvs E0 t) := by
  obtain ⟨f, fd, ds, F, b, v, kp, m⟩ := c.ex
  exact pe_call F hr hg m kp b v pass0 ha hdb he hpl
end
theorem range_mapV (xs : List V) (f : V → V) : (List.range xs.length).map (fun i => f (xs.getD i .non)) = xs.map f := by
  apply List.ext_getElem
  · simp
  · intro i h1 h2
    simp at h1
    simp [h1]
theorem lc_tupV {K : PySem.W.Frag} {a : Addr} {xs : List V} {te : TE} {fr : St} {H1 : Hp} {acc : Addr} {Q : VK} (f : V → V) (hl : SqT K H1 a xs) (hn : xs.length ≤ sizeLine) (hacc : H1 acc = none) (hs : ∀ v H (N : V → Hp → Prop), v ∈ xs → Same H1 H → N (f v) H → te (some v :: fr) H N)
    (hd : ∀ H2, Same H1 H2 → H2 acc = some (.lst (xs.map f)) → Q (.ref acc) H2) : LcW (Itt K a) (gName 0) te (none :: fr) H1 acc Q := by
  refine lc_pure (n := xs.length) (val := fun i => xs.getD i .non) (fun i => f (xs.getD i .non)) hn hacc (fun i H hi s => ?_) (fun H s => ⟨_, s.tup hl, by simp⟩) (fun i H N hi s kN => hs _ H N (by simp [hi]) s kN) (fun H2 s h => hd H2 s (by rw [h, range_mapV]))
  have e : xs[i]? = some (xs.getD i .non) := by simp [hi]
  refine ⟨⟨_, _, s.tup hl, e⟩, fun x H' y => ⟨y.1, ?_⟩⟩
  have := y.2 _ (s.tup hl)
  rw [e] at this
  exact (Option.some.inj this).symm
theorem FunAt.all {P : Program} {w : World} {K : PySem.W.Frag} {mg : Str → Option Value} {base : Heap} {x : Str} {st : Stmt} {dV : Value} {N ps : List Str} {k : Nat} {sp : Sp} (F : FunAt K x st dV) {h : Heap} (X : K.In h) (G : h.Ns mainGlobals mg) (S : FnScope N ps (defScope st)) (len : ∀ vs H Q E, sp vs H Q E → vs.length = ps.length)
    (hbody : ∀ (f : Addr) (cdv : Value) (A : Around) (outer : List Env) (s : Shared) (H : Hp) (vs : List V) (Q : VK) (E : XK), Room k (A.deeper (envOfC x (defScope st) s.heap.objs.size f cdv)) → sp vs H Q E →
      ∃ t, PSs (cxOf CX0 P w K mg base N x (defScope st) f cdv A outer s H E).nox (defBody st) t ∧ t { nx := fun _ H' => Q .non H', rt := Q } (start N vs) H) :
    ∃ (f : Addr) (kV doc pm : Value) (an : Option Addr) (cdv ct : Value), FnOk P w K mg base CX0 (k + 1) f (PySem.W.fnOf x x (defArgs st) (defBody st) (defScope st) dV kV doc pm an cdv ct) ps sp ∧ PySem.W.keepIn K (.ref f) = true ∧ mg x = some (.ref f) := by
  obtain ⟨f, oc, od, kV, doc, pm, an, cdv, ct, osl, lk, hcd, kp, ns⟩ := F.ex
  refine ⟨f, kV, doc, pm, an, cdv, ct, fn_of lk hcd S len fun A outer s H vs Q E hr hsp => ?_, kp, PySem.W.mg_of X G ns⟩
  obtain ⟨t, h, q⟩ := hbody f cdv A outer s H vs Q E hr hsp
  exact ⟨t, h.nox, q⟩
end L2
namespace Pt
open PySem PySem.Spec PyProof.Rows L2
def isI : V → Bool
  | .int _ => true
  | _ => false
structure Part (K : PySem.W.Frag) (H : Hp) (v : V) : Prop where
  ex : ∃ t b1 b2, TyOf K H v t ∧ PySem.W.kitOne K t (.type "int") = some b1 ∧ PySem.W.kitOne K t (.type "bool") = some b2 ∧ (b1 && !b2) = isI v
theorem kit_nt (K : PySem.W.Frag) : PySem.W.kitOne K (.type "NoneType") (.type "tuple") = some false := by with_unfolding_all rfl
theorem kit_bt (K : PySem.W.Frag) : PySem.W.kitOne K (.type "bool") (.type "tuple") = some false := by with_unfolding_all rfl
theorem kit_it (K : PySem.W.Frag) : PySem.W.kitOne K (.type "int") (.type "tuple") = some false := by with_unfolding_all rfl
theorem kit_st (K : PySem.W.Frag) : PySem.W.kitOne K (.type "str") (.type "tuple") = some false := by with_unfolding_all rfl
theorem kit_lt (K : PySem.W.Frag) : PySem.W.kitOne K (.type "list") (.type "tuple") = some false := by with_unfolding_all rfl
theorem kit_dt (K : PySem.W.Frag) : PySem.W.kitOne K (.type "dict") (.type "tuple") = some false := by with_unfolding_all rfl
theorem kit_tt (K : PySem.W.Frag) : PySem.W.kitOne K (.type "tuple") (.type "tuple") = some true := by unfold PySem.W.kitOne; rw [if_pos (by decide)]
section
variable {K : PySem.W.Frag} {H : Hp}
theorem Part.int (i : Int) : Part K H (.int i) := ⟨_, true, false, .int i, kit_ii K, kit_ib K, rfl⟩
theorem Part.bl (b : Bool) : Part K H (.bl b) := ⟨_, true, true, .bl b, by with_unfolding_all rfl, kit_bb K, rfl⟩
theorem Part.non : Part K H .non := ⟨_, false, false, .non, by with_unfolding_all rfl, by with_unfolding_all rfl, rfl⟩
theorem Part.str (x : Str) : Part K H (.str x) := ⟨_, false, false, .str x, by with_unfolding_all rfl, by with_unfolding_all rfl, rfl⟩
theorem Part.lst {a : Addr} {xs : List V} (e : H a = some (.lst xs)) : Part K H (.ref a) := ⟨_, false, false, .lst e, by with_unfolding_all rfl, by with_unfolding_all rfl, rfl⟩
theorem Part.tup {a : Addr} {xs : List V} (e : H a = some (.tup xs)) : Part K H (.ref a) := ⟨_, false, false, .tup e, by with_unfolding_all rfl, by with_unfolding_all rfl, rfl⟩
end
theorem Part.flat {K : PySem.W.Frag} {H : Hp} {v : V} (h : flatV v = true) : Part K H v := by
  cases v with
  | int i => exact Part.int i
  | bl b => exact Part.bl b
  | non => exact Part.non
  | str x => exact Part.str x
  | _ => cases h
def spIsWhole (K : PySem.W.Frag) : Sp := fun vs H Q _ => ∃ v, vs = [v] ∧ Part K H v ∧ Q (.bl (isI v)) H
end Pt

namespace L2
open PySem PySem.Spec PyProof.Rows
theorem Cal.imp {P : Program} {w : World} {K : PySem.W.Frag} {mg : Str → Option Value} {base : Heap} {k : Nat} {x : Str} {ps : List Str} {sp sp' : Sp} (c : Cal P w K mg base k x ps sp) (h : ∀ vs H Q E, sp' vs H Q E → sp vs H Q E) : Cal P w K mg base k x ps sp' :=
  let ⟨f, fd, F, r⟩ := c.ex
  ⟨f, fd, F.imp h, r⟩
end L2

set_option maxHeartbeats 4000000
namespace K25
open PySem PySem.Spec PyProof.Rows L2 Am Pc Ba K14 K15n Hw
open Pt hiding kit_tt
theorem any4' {a b c d : Int} (h : ([a, b, c, d].map fun n => decide (V.int (n % 2) = V.int 1)).any id = false) : a % 2 = 0 ∧ b % 2 = 0 ∧ c % 2 = 0 ∧ d % 2 = 0 := by
  have e : ∀ n : Int, decide (V.int (n % 2) = V.int 1) = false → n % 2 = 0 := fun n hn => by
    have h1 : n % 2 ≠ 1 := fun h => of_decide_eq_false hn (by rw [h])
    omega
  simp only [List.map_cons, List.map_nil, List.any_cons, List.any_nil, id, Bool.or_false, Bool.or_eq_false_iff] at h
  exact ⟨e _ h.1, e _ h.2.1, e _ h.2.2.1, e _ h.2.2.2⟩
theorem any4t {a b c d : Int} (h : ([a, b, c, d].map fun n => decide (V.int (n % 2) = V.int 1)).any id = true) : a % 2 = 1 ∨ b % 2 = 1 ∨ c % 2 = 1 ∨ d % 2 = 1 := by
  have e : ∀ n : Int, decide (V.int (n % 2) = V.int 1) = true → n % 2 = 1 := fun n hn => V.int.inj (of_decide_eq_true hn)
  simp only [List.map_cons, List.map_nil, List.any_cons, List.any_nil, id, Bool.or_false, Bool.or_eq_true] at h
  rcases h with h | h | h | h
  · exact .inl (e _ h)
  · exact .inr (.inl (e _ h))
  · exact .inr (.inr (.inl (e _ h)))
  · exact .inr (.inr (.inr (e _ h)))
def okW (n : Nat) : V → Bool
  | .int i => decide (0 ≤ i ∧ i < ((2 ^ n : Nat) : Int))
  | _ => false
inductive Tel (K : PySem.W.Frag) (H : Hp) : V → Bool → Prop where
  | flat {v : V} (f : flatV v = true) : Tel K H v false
  | lst {p : Addr} {xs : List V} (e : H p = some (.lst xs)) : Tel K H (.ref p) false
  | dic {p : Addr} {xs : List (Key × V)} (e : H p = some (.dK xs)) : Tel K H (.ref p) false
  | many {p : Addr} {xs : List V} (e : H p = some (.tup xs)) (l : xs.length ≠ 5) : Tel K H (.ref p) false
  | part {p : Addr} {xs : List V} (e : H p = some (.tup xs)) (l : xs.length = 5) (hp : ∀ v ∈ xs, flatV v = true) (n : (xs.map isI).all id = false) : Tel K H (.ref p) false
  | yes {p : Addr} {a b c d h : Int} (e : H p = some (T5 a b c d h)) (y : Amt a b c d h) : Tel K H (.ref p) true
  | no {p : Addr} {a b c d h : Int} (e : H p = some (T5 a b c d h)) (y : ¬ Amt a b c d h) : Tel K H (.ref p) false
theorem Tel.same {K : PySem.W.Frag} {H H' : Hp} {v : V} {b : Bool} (t : Tel K H v b) (s : Same H H') : Tel K H' v b := by
  cases t with
  | flat f => exact .flat f
  | lst e => exact .lst (s _ _ e)
  | dic e => exact .dic (s _ _ e)
  | many e l => exact .many (s _ _ e) l
  | part e l hp n => exact .part (s _ _ e) l hp n
  | yes e y => exact .yes (s _ _ e) y
  | no e y => exact .no (s _ _ e) y
def spIsAmt (K : PySem.W.Frag) : Sp := fun vs H Q _ => ∃ (v : V) (b : Bool), vs = [v] ∧ Tel K H v b ∧ ∀ H', Same H H' → Q (.bl b) H'
theorem bits_le {i : Int} {n : Nat} (h : 0 ≤ i) : ((Builtin.Int.intBits i : Nat) : Int) ≤ n ↔ i < ((2 ^ n : Nat) : Int) := by
  unfold Builtin.Int.intBits
  by_cases h0 : i = 0
  · subst h0
    have := Nat.two_pow_pos n
    rw [show ((0 : Int) == 0) = true from rfl, if_pos rfl]
    constructor <;> intro <;> omega
  · have hb : (i == 0) = false := by simpa using h0
    rw [hb]
    have hn : i.natAbs ≠ 0 := by omega
    have := Nat.log2_lt (k := n) hn
    simp only [Bool.false_eq_true, if_false]
    constructor
    · intro z
      have : i.natAbs.log2 < n := by omega
      rw [Nat.log2_lt hn] at this
      omega
    · intro z
      have : i.natAbs < 2 ^ n := by omega
      rw [← Nat.log2_lt hn] at this
      omega
def spWordP (K : PySem.W.Frag) : Sp := fun vs H Q _ => ∃ (v : V) (n : Nat), vs = [v, .int n] ∧ Part K H v ∧ Q (.bl (okW n v)) H
def st (x w : Nat) : A5 := if w = x then ((1, 0, 0, 0), 0) else ((0, 0, 0, 0), 0)
def At5 (K : PySem.W.Frag) (H : Hp) (p : Addr) (x : A5) : Prop := SqT K H p ((l5 x).map V.int)
theorem At5.of {K : PySem.W.Frag} {H : Hp} {p : Addr} {x : A5} (h : H p = some (tA x)) : At5 K H p x := SqT.of h
theorem At5.same {K : PySem.W.Frag} {H H' : Hp} {p : Addr} {x : A5} (h : At5 K H p x) (s : Same H H') : At5 K H' p x := s.tup h
theorem At5.upd {K : PySem.W.Frag} {H : Hp} {p l : Addr} {x : A5} {xs ys : List V} (h : At5 K H p x) (e : H l = some (.lst xs)) : At5 K (upd H l (.lst ys)) p x := by
  rcases h with h | h
  · rcases h with h | ⟨o, h⟩
    · exact .inl (.inl (by rw [upd_ne (ne_of h e (by intro z; cases z))]; exact h))
    · exact .inl (.inr ⟨o, by rw [upd_ne (ne_of h e (by intro z; cases z))]; exact h⟩)
  · exact .inr h
def ValsK (K : PySem.W.Frag) (H : Hp) (ps : List Addr) (f : Nat → A5) : Prop := ∀ i p, ps[i]? = some p → At5 K H p (f i)
theorem vals_pushK {K : PySem.W.Frag} {H H' : Hp} {ps : List Addr} {f : Nat → A5} {p : Addr} {x : A5} (v : ValsK K H ps f) (s : Same H H') (e : At5 K H' p x) : ValsK K H' (ps ++ [p]) (fun j => if j = ps.length then x else f j) := by
  intro i q hq
  by_cases hi : i < ps.length
  · rw [List.getElem?_append_left hi] at hq
    show At5 K H' q (if i = ps.length then x else f i)
    rw [if_neg (by omega)]
    exact (v i q hq).same s
  · rw [List.getElem?_append_right (by omega)] at hq
    have hi2 : i = ps.length := by
      have := (List.getElem?_eq_some_iff.mp hq).1
      simp at this
      omega
    subst hi2
    simp at hq
    subst hq
    show At5 K H' _ (if ps.length = ps.length then x else f ps.length)
    rw [if_pos rfl]
    exact e
theorem vals_updK {K : PySem.W.Frag} {H : Hp} {ps : List Addr} {f : Nat → A5} {l : Addr} {xs ys : List V} (v : ValsK K H ps f) (e : H l = some (.lst xs)) : ValsK K (upd H l (.lst ys)) ps f := fun i q hq => (v i q hq).upd e
def spStart (K : PySem.W.Frag) : Sp := fun vs H Q _ => ∃ c x : Nat, vs = [.int c, .int x] ∧ 1 ≤ c ∧ c ≤ 6 ∧ x < 2 ^ c ∧ ∀ (r : Addr) (H' : Hp) (qs : List Addr), H r = none → Same H H' → H' r = some (.lst (qs.map V.ref)) → qs.length = 2 ^ c → ValsK K H' qs (st x) → Q (.ref r) H'
section
variable {P : Program} {w : World} {K : PySem.W.Frag} {mg : Str → Option Value} {base : Heap} {k : Nat} {h : Heap}
theorem sc_iswhole : FnScope ["thing"] ["thing"] (defScope (top 14)) := ⟨rfl, rfl, rfl, by decide +kernel, rfl, by decide +kernel, by decide +kernel⟩
theorem ok_iswhole (F : FunAt K "is_whole" (top 14) .none) (X : K.In h) (G : h.Ns mainGlobals mg) (B : Bs mg) : Cal P w K mg base (k + 1) "is_whole" ["thing"] (spIsWhole K) := by
  have nd := sc_iswhole.nd
  refine F.cal X G sc_iswhole (bnd1 fun _ _ _ _ _ _ _ => rfl) (fun vs H Q E h => ?_) (fun f cdv A outer s H vs Q E hr h => ?_)
  · obtain ⟨v, rfl, _⟩ := h; rfl
  obtain ⟨v, rfl, ⟨t, b1, b2, ty, e1, e2, e3⟩, q⟩ := h
  refine ⟨_, (@pss_one _ _ _ (ps_ret (pe_and (pe_callB call_isinst rfl B.isinstance boot_isinstance (pa_cons (pv 0) (pa_cons (pe_bltn (v := .ty "int") rfl B.int boot_int rfl) pa_nil))) (pe_one (pe_not (pe_callB call_isinst rfl B.isinstance boot_isinstance (pa_cons (pv 0) (pa_cons (pe_bltn (v := .ty "bool") rfl B.bool boot_bool rfl) pa_nil)))))))), ?_⟩
  try dsimp only [cxK]
  refine ⟨_, rfl, _, _, _, b1, rfl, ty, e1, _, rfl, blI (fun z => ?_) (fun z => ?_)⟩
  · subst z
    refine ⟨_, rfl, _, _, _, b2, rfl, ty, e2, _, rfl, ?_⟩
    rw [Bool.true_and] at e3
    rw [e3]
    exact q
  · subst z
    rw [Bool.false_and] at e3
    rw [e3]
    exact q
theorem sc_isamt : FnScope ["thing"] ["thing"] (defScope (top 18)) := ⟨rfl, rfl, rfl, by decide +kernel, rfl, by decide +kernel, by decide +kernel⟩
theorem ok_isamt (F : FunAt K "is_amount" (top 18) .none) (X : K.In h) (G : h.Ns mainGlobals mg) (B : Bs mg) (c_is_whole : Cal P w K mg base k "is_whole" ["thing"] (spIsWhole K)) : Cal P w K mg base (k + 1) "is_amount" ["thing"] (spIsAmt K) := by
  have nd := sc_isamt.nd
  refine F.cal X G sc_isamt (bnd1 fun _ _ _ _ _ _ _ => rfl) (fun vs H Q E h => ?_) (fun f cdv A outer s H vs Q E hr h => ?_)
  · obtain ⟨v, b, rfl, _⟩ := h; rfl
  obtain ⟨v, b, rfl, tel, kq⟩ := h
  refine ⟨_, (@pss_cons _ _ _ _ _ (ps_if (PW.pt (pw_or (pt_not (pt_val (pe_callB call_isinst rfl B.isinstance boot_isinstance (pa_cons (pv 0) (pa_cons (pe_bltn (v := .ty "tuple") rfl B.tuple boot_tuple rfl) pa_nil))))) (pw_or1 (pt_cmpR op_ne (pe_callB call_len_seq rfl B.len PySem.boot_len (pa_cons (pv 0) pa_nil)) pe_int (nomark _)))))
      (@pss_one _ _ _ (ps_ret pe_bl))
      pss_nil)
    (@pss_cons _ _ _ _ _ (ps_if (PW.pt (pw_or (pt_not (pt_val (pe_callB (call_allL rfl) rfl B.all boot_all (pa_cons (pe_lc rfl (LcOk.of (Nc := ["part"]) (mp := [none]) (by kernel_rfl)) (pi_tup (pv 0)) (fun _ _ _ _ => (pg_name (i := 0) (show (["part"] : List Str).Nodup by decide +kernel) rfl (Or.inl rfl))) (fun _ _ _ _ => (pe_cal c_is_whole hr rfl (pa_cons (pv 0) pa_nil)))) pa_nil)))) (pw_or1 (pt_cmpR op_lt (pe_ix ix_tup (pv 0) pe_int (fun _ _ => rfl)) pe_int (nomark _)))))
      (@pss_one _ _ _ (ps_ret pe_bl))
      pss_nil)
    (@pss_one _ _ _ (ps_ret (pe_or (pe_cmpR op_eq (pe_ix ix_tup (pv 0) pe_int (fun _ _ => rfl)) pe_int (nomark _)) (pe_one (pe_callB (call_anyL rfl) rfl B.any boot_any (pa_cons (pe_lc rfl (LcOk.of (Nc := ["part"]) (mp := [none]) (by kernel_rfl)) (pi_tup (pe_slice sl_tupA (pv 0) po_none (po_some pe_int))) (fun _ _ _ _ => (pg_name (i := 0) (show (["part"] : List Str).Nodup by decide +kernel) rfl (Or.inl rfl))) (fun _ _ _ _ => (pe_cmpR op_eq (pe_op op_mod (pv 0) pe_int) pe_int (nomark _)))) pa_nil)))))))), ?_⟩
  try dsimp only [cxK]
  cases tel with
  | flat f =>
    cases v with
    | non => exact ⟨_, rfl, _, _, _, false, rfl, .non, kit_nt K, _, rfl, iteT (kq H (Same.refl _))⟩
    | bl x => exact ⟨_, rfl, _, _, _, false, rfl, .bl x, kit_bt K, _, rfl, iteT (kq H (Same.refl _))⟩
    | int x => exact ⟨_, rfl, _, _, _, false, rfl, .int x, kit_it K, _, rfl, iteT (kq H (Same.refl _))⟩
    | str x => exact ⟨_, rfl, _, _, _, false, rfl, .str x, kit_st K, _, rfl, iteT (kq H (Same.refl _))⟩
    | _ => cases f
  | lst e => exact ⟨_, rfl, _, _, _, false, rfl, .lst e, kit_lt K, _, rfl, iteT (kq H (Same.refl _))⟩
  | dic e => exact ⟨_, rfl, _, _, _, false, rfl, .dK e, kit_dt K, _, rfl, iteT (kq H (Same.refl _))⟩
  | @many p xs e l =>
    refine ⟨_, rfl, _, _, _, true, rfl, TyOf.tup e, kit_tt K, _, rfl, iteF ⟨_, rfl, p, _, rfl, .inr (SqT.of e), rfl, _, rfl, neI (fun _ => kq H (Same.refl _)) (fun z => absurd (by omega) l)⟩⟩
  | @part p xs e l hp n =>
    refine ⟨_, rfl, _, _, _, true, rfl, TyOf.tup e, kit_tt K, _, rfl, iteF ⟨_, rfl, p, _, rfl, .inr (SqT.of e), rfl, _, rfl, neI (fun z => absurd (by omega) z) (fun _ => ?_)⟩⟩
    refine ⟨_, rfl, p, rfl, ⟨_, SqT.of e⟩, fun acc hacc => ?_⟩
    refine lc_tupV (xs := xs) (fr := []) (fun v => .bl (isI v)) (SqT.of e) (by rw [l]; decide) hacc (fun v H2 N hv s2 kN => ⟨_, rfl, v, rfl, Part.flat (hp v hv), kN⟩) (fun H2 s2 h2 => ?_)
    refine ⟨acc, xs.map isI, rfl, SqL.of (by rw [h2, List.map_map]; rfl), _, rfl, ?_⟩
    rw [n]
    exact iteT (kq H2 s2)
  | @yes p a b c d h e y =>
    have S : SqT K H p [.int a, .int b, .int c, .int d, .int h] := SqT.of e
    refine ⟨_, rfl, _, _, _, true, rfl, TyOf.tup e, kit_tt K, _, rfl, iteF ⟨_, rfl, p, _, rfl, .inr S, rfl, _, rfl, neI (fun z => absurd rfl z) (fun _ => ?_)⟩⟩
    refine ⟨_, rfl, p, rfl, ⟨_, S⟩, fun acc hacc => ?_⟩
    refine lc_tupV (xs := [.int a, .int b, .int c, .int d, .int h]) (fr := []) (fun v => .bl (isI v)) S (show 5 ≤ sizeLine by decide) hacc (fun v H2 N hv s2 kN => ⟨_, rfl, v, rfl, ?_, kN⟩) (fun H2 s2 h2 => ?_)
    · simp at hv
      rcases hv with rfl | rfl | rfl | rfl | rfl <;> exact Part.int _
    have S2 := s2.tup S
    refine ⟨acc, [true, true, true, true, true], rfl, SqL.of h2, _, rfl, iteF ⟨_, rfl, p, _, _, _, rfl, rfl, S2, rfl, _, _, rfl, rfl, _, rfl, decI (fun z => absurd z (by have := y.nn; omega)) (fun _ => ?_)⟩⟩
    refine ⟨_, rfl, p, _, _, _, rfl, rfl, S2, rfl, rfl, _, rfl, eqI (fun _ => kq H2 s2) (fun z => ?_)⟩
    refine ⟨_, rfl, 4, rfl, p, _, rfl, S2, .inr ⟨fun c => absurd c.2 (by show ¬ HT.sIx 5 5 (some 4) = 5; decide), fun t ht => ⟨t, rfl, ⟨_, SqT.of upd_same⟩, fun ac2 hac2 => ?_⟩⟩⟩
    refine lc_tupP (ns := [a, b, c, d]) (fr := []) (fun n => .bl (decide (V.int (n % 2) = V.int 1))) (SqT.of upd_same) (show 4 ≤ sizeLine by decide) hac2 (fun n H3 N s3 kN => ⟨_, rfl, _, _, rfl, rfl, (by show (0 : Int) < _; decide), rfl, kN⟩) (fun H3 s3 h3 => ?_)
    refine ⟨ac2, [a, b, c, d].map (fun n => decide (V.int (n % 2) = V.int 1)), rfl, SqL.of (by rw [h3, List.map_map]; rfl), ?_⟩
    have ev : ([a, b, c, d].map fun n => decide (V.int (n % 2) = V.int 1)).any id = true := by
      cases q : ([a, b, c, d].map fun n => decide (V.int (n % 2) = V.int 1)).any id with
      | true => rfl
      | false =>
        have := any4' q
        rcases y.odd with o | o | o | o | o <;> omega
    rw [ev]
    exact kq H3 ((s2.trans (same_new ht _)).trans s3)
  | @no p a b c d h e y =>
    have S : SqT K H p [.int a, .int b, .int c, .int d, .int h] := SqT.of e
    refine ⟨_, rfl, _, _, _, true, rfl, TyOf.tup e, kit_tt K, _, rfl, iteF ⟨_, rfl, p, _, rfl, .inr S, rfl, _, rfl, neI (fun z => absurd rfl z) (fun _ => ?_)⟩⟩
    refine ⟨_, rfl, p, rfl, ⟨_, S⟩, fun acc hacc => ?_⟩
    refine lc_tupV (xs := [.int a, .int b, .int c, .int d, .int h]) (fr := []) (fun v => .bl (isI v)) S (show 5 ≤ sizeLine by decide) hacc (fun v H2 N hv s2 kN => ⟨_, rfl, v, rfl, ?_, kN⟩) (fun H2 s2 h2 => ?_)
    · simp at hv
      rcases hv with rfl | rfl | rfl | rfl | rfl <;> exact Part.int _
    have S2 := s2.tup S
    refine ⟨acc, [true, true, true, true, true], rfl, SqL.of h2, _, rfl, iteF ⟨_, rfl, p, _, _, _, rfl, rfl, S2, rfl, _, _, rfl, rfl, _, rfl, decI (fun z => kq H2 s2) (fun hn => ?_)⟩⟩
    refine ⟨_, rfl, p, _, _, _, rfl, rfl, S2, rfl, rfl, _, rfl, eqI (fun z => absurd ⟨by omega, .inl z⟩ y) (fun z => ?_)⟩
    refine ⟨_, rfl, 4, rfl, p, _, rfl, S2, .inr ⟨fun c => absurd c.2 (by show ¬ HT.sIx 5 5 (some 4) = 5; decide), fun t ht => ⟨t, rfl, ⟨_, SqT.of upd_same⟩, fun ac2 hac2 => ?_⟩⟩⟩
    refine lc_tupP (ns := [a, b, c, d]) (fr := []) (fun n => .bl (decide (V.int (n % 2) = V.int 1))) (SqT.of upd_same) (show 4 ≤ sizeLine by decide) hac2 (fun n H3 N s3 kN => ⟨_, rfl, _, _, rfl, rfl, (by show (0 : Int) < _; decide), rfl, kN⟩) (fun H3 s3 h3 => ?_)
    refine ⟨ac2, [a, b, c, d].map (fun n => decide (V.int (n % 2) = V.int 1)), rfl, SqL.of (by rw [h3, List.map_map]; rfl), ?_⟩
    have ev : ([a, b, c, d].map fun n => decide (V.int (n % 2) = V.int 1)).any id = false := by
      cases q : ([a, b, c, d].map fun n => decide (V.int (n % 2) = V.int 1)).any id with
      | false => rfl
      | true =>
        have := any4t q
        exact absurd ⟨by omega, .inr this⟩ y
    rw [ev]
    exact kq H3 ((s2.trans (same_new ht _)).trans s3)
theorem sc_isword : FnScope ["thing", "cells"] ["thing", "cells"] (defScope (top 28)) := ⟨rfl, rfl, rfl, by decide +kernel, rfl, by decide +kernel, by decide +kernel⟩
theorem ok_isword (F : FunAt K "is_word" (top 28) .none) (X : K.In h) (G : h.Ns mainGlobals mg) (c_is_whole : Cal P w K mg base k "is_whole" ["thing"] (spIsWhole K)) : Cal P w K mg base (k + 1) "is_word" ["thing", "cells"] (spWordP K) := by
  have nd := sc_isword.nd
  refine F.cal X G sc_isword (bnd2 fun _ _ _ _ _ _ _ _ => rfl) (fun vs H Q E h => ?_) (fun f cdv A outer s H vs Q E hr h => ?_)
  · obtain ⟨v, n, rfl, _⟩ := h; rfl
  obtain ⟨v, n, rfl, pt, q⟩ := h
  refine ⟨_, (@pss_cons _ _ _ _ _ (ps_if (pt_not (PW.pt (pw_and (pt_val (pe_cal c_is_whole hr rfl (pa_cons (pv 0) pa_nil))) (pw_and1 (pt_val (pe_cal c_is_whole hr rfl (pa_cons (pv 1) pa_nil)))))))
      (@pss_one _ _ _ (ps_ret pe_bl))
      pss_nil)
    (@pss_one _ _ _ (ps_ret (pe_and (pe_cmpR op_ge (pv 0) pe_int (nomark _)) (pe_one (pe_cmpR op_le (pe_bm0 PySem.F.plainAttrs_int PySem.F.slot_int_bit_length PySem.F.type_int_bit_length mt_bitlen (pv 0)) (pv 1) (nomark _))))))), ?_⟩
  try dsimp only [cxK]
  refine ⟨_, rfl, v, rfl, pt, _, rfl, blI (fun z => ?_) (fun z => ?_)⟩
  · refine ⟨_, rfl, _, rfl, Part.int n, _, rfl, iteF ?_⟩
    cases v with
    | int i =>
      refine ⟨_, rfl, _, _, rfl, rfl, _, rfl, decI (fun i0 => ?_) (fun i0 => ?_)⟩
      · refine ⟨_, rfl, rfl, _, rfl, rfl, _, rfl, _, _, rfl, rfl, ?_⟩
        have e : decide (((Builtin.Int.intBits i : Nat) : Int) ≤ n) = okW n (.int i) := by
          show _ = decide _
          rw [decide_eq_decide, bits_le i0]
          exact ⟨fun z => ⟨i0, z⟩, fun z => z.2⟩
        show Q (.bl (decide (((Builtin.Int.intBits i : Nat) : Int) ≤ n))) H
        rw [e]
        exact q
      · have e : okW n (.int i) = false := decide_eq_false fun z => i0 z.1
        rw [e] at q
        exact q
    | _ => cases z
  · have e : okW n v = false := by cases v <;> first | rfl | cases z
    rw [e] at q
    exact iteT q
def spBegin : Sp := fun vs H Q _ => ∃ c x : Nat, vs = [.int c, .int x] ∧ 1 ≤ c ∧ c ≤ 6 ∧ x < 2 ^ c ∧ Q .non H
theorem sc_begin : FnScope ["cells", "word"] ["cells", "word"] (defScope (top 35)) := ⟨rfl, rfl, rfl, by decide +kernel, rfl, by decide +kernel, by decide +kernel⟩
theorem ok_begin {tM : Tok} (gM : mg "MOST_CELLS" = some (.int 6 tM)) (F : FunAt K "check_beginning" (top 35) .none) (X : K.In h) (G : h.Ns mainGlobals mg) (c_is_whole : Cal P w K mg base k "is_whole" ["thing"] (spIsWhole K)) (c_is_word : Cal P w K mg base k "is_word" ["thing", "cells"] (spWordP K)) : Cal P w K mg base (k + 1) "check_beginning" ["cells", "word"] spBegin := by
  have nd := sc_begin.nd
  refine F.cal X G sc_begin (bnd2 fun _ _ _ _ _ _ _ _ => rfl) (fun vs H Q E h => ?_) (fun f cdv A outer s H vs Q E hr h => ?_)
  · obtain ⟨c, x, rfl, _⟩ := h; rfl
  obtain ⟨c, x, rfl, c1, c6, xc, kq⟩ := h
  have wx : okW c (.int x) = true := decide_eq_true ⟨by omega, by omega⟩
  refine ⟨_, (@pss_cons _ _ _ _ _ (ps_if (PW.pt (pw_or (pt_not (pt_val (pe_cal c_is_whole hr rfl (pa_cons (pv 0) pa_nil)))) (pw_or (pt_cmpR op_lt (pv 0) pe_int (nomark _)) (pw_or1 (pt_cmpR op_gt (pv 0) (pe_glob (v := .int 6) rfl gM ⟨tM, rfl⟩) (nomark _))))))
      (@pss_one _ _ _ ps_never)
      pss_nil)
    (@pss_one _ _ _ (ps_if (pt_not (pt_val (pe_cal c_is_word hr rfl (pa_cons (pv 1) (pa_cons (pv 0) pa_nil)))))
      (@pss_one _ _ _ ps_never)
      pss_nil))), ?_⟩
  try dsimp only [cxK]
  refine ⟨_, rfl, _, rfl, Part.int _, _, rfl, iteF ⟨_, rfl, _, _, rfl, rfl, _, rfl, decI (fun z => absurd z (by omega)) (fun _ => ⟨_, rfl, _, _, rfl, rfl, _, rfl, decI (fun z => absurd z (by omega)) (fun _ => ?_)⟩)⟩⟩
  refine ⟨_, rfl, _, rfl, _, c, rfl, Part.int _, _, rfl, ?_⟩
  rw [wx]
  exact iteF kq
theorem sc_start : FnScope ["cells", "word"] ["cells", "word"] (defScope (top 34)) := ⟨rfl, rfl, rfl, by decide +kernel, rfl, by decide +kernel, by decide +kernel⟩
theorem binds_start {D : Addr} {oc : Value} {od : Option Addr} {n : Nat} {sl : Array (Option Value)} {t0 : Tok} (l : K.lookup D = some ⟨oc, od, .seq #[.int 0 t0] n, sl⟩) : BindsAll K "start" (top 34) (.ref D) ["cells", "word"] := by
  intro kV doc pm an cdv ct s us X hl
  match us, hl with
  | [a, b], _ => exact BindsTo.of_defaults rfl (X _ _ l) rfl rfl rfl
structure Sts (P : Program) (w : World) (K : PySem.W.Frag) (mg : Str → Option Value) (base : Heap) (k : Nat) : Prop where
  c : Cal P w K mg base k "start" ["cells", "word"] (spStart K)
  d1 : CalD P w K mg base k "start" ["cells", "word"] (spStart K) [.int 0]
theorem Sts.mono {P : Program} {w : World} {K : PySem.W.Frag} {mg : Str → Option Value} {base : Heap} {j k : Nat} (c : Sts P w K mg base j) (h : j ≤ k) : Sts P w K mg base k := ⟨c.c.mono h, c.d1.mono h⟩
theorem ok_start {D : Addr} {oc : Value} {od : Option Addr} {n : Nat} {sl : Array (Option Value)} {t0 : Tok} (l : K.lookup D = some ⟨oc, od, .seq #[.int 0 t0] n, sl⟩) (F : FunAt K "start" (top 34) (.ref D)) (X : K.In h) (G : h.Ns mainGlobals mg) (B : Bs mg) {aO aZ : Addr} (gO : mg "ONE" = some (.ref aO)) (gZ : mg "NOUGHT" = some (.ref aZ)) (kO : ∀ H, At5 K H aO ((1, 0, 0, 0), 0)) (kZ : ∀ H, At5 K H aZ ((0, 0, 0, 0), 0))
    (c_check_beginning : Cal P w K mg base k "check_beginning" ["cells", "word"] spBegin) : Sts P w K mg base (k + 1) := by
  have nd := sc_start.nd
  obtain ⟨f, kV, doc, pm, an, cdv, ct, FO, kp, m⟩ := F.all (P := P) (w := w) (base := base) (k := k) (sp := spStart K) (ps := ["cells", "word"]) X G sc_start (fun vs H Q E h => by obtain ⟨c, x, rfl, _⟩ := h; rfl) (fun f cdv A outer s H vs Q E hr h => by
    obtain ⟨c, x, rfl, c1, c6, xc, kq⟩ := h
    have p6 := pow6 c6
    have hN : (1 : Int) * 2 ^ ((c : Int).toNat) = ((2 ^ c : Nat) : Int) := ipow c
    have hM : (1 * 2 ^ ((c : Int).toNat) : Int).toNat = 2 ^ c := by rw [hN, Int.toNat_natCast]
    refine ⟨_, (@pss_cons _ _ _ _ _ (ps_expr (pe_cal c_check_beginning hr rfl (pa_cons (pv 0) (pa_cons (pv 1) pa_nil))))
    (@pss_one _ _ _ (ps_ret (pe_lc rfl (LcOk.of (Nc := ["place", "word"]) (mp := [none, some 1]) (by kernel_rfl)) (pi_range1 rfl B.range (pa_cons (pe_op op_shlS pe_int (pv 0)) pa_nil)) (fun _ _ _ _ => (pg_name (i := 0) (show (["place", "word"] : List Str).Nodup by decide +kernel) rfl (Or.inl rfl))) (fun _ _ _ _ => (pe_ifExp (pt_cmpR op_eq (pv 0) (pv 1) (nomark _)) (pe_glob (v := .ref aO) rfl gO rfl) (pe_glob (v := .ref aZ) rfl gZ rfl))))))), ?_⟩
    refine ⟨_, rfl, _, rfl, c, x, rfl, c1, c6, xc, ?_⟩
    refine ⟨_, rfl, _, _, rfl, rfl, ⟨1, sz1, by omega, by omega⟩, _, rfl, by rw [hN]; omega, by rw [hN]; omega, fun acc hacc => ?_⟩
    rw [hM]
    refine lc_range (n := 2 ^ c) (fr := [some (.int x)]) (fun i ys H' => ∃ qs : List Addr, Same H H' ∧ H' acc = some (.lst ys) ∧ ys = qs.map V.ref ∧ qs.length = i ∧ ValsK K H' qs (st x)) (t64 p6)
      ⟨[], same_new hacc _, upd_same, rfl, rfl, (fun _ _ z => by cases z)⟩ ?_ ?_
    · rintro i ys H2 N hi hy ⟨qs, S2, a2, rfl, ql, v2⟩ kN
      have fin : ∀ (r : Addr), At5 K H2 r (st x i) → N (.ref r) H2 := fun r hr => by
        refine kN (.ref r) H2 a2 ⟨qs ++ [r], same_upd S2 hacc, upd_same, by rw [List.map_append]; rfl, by simp [ql], ?_⟩
        have := vals_updK (ys := qs.map V.ref ++ [.ref r]) (xs := qs.map V.ref) (vals_pushK v2 (Same.refl _) hr) a2
        intro j p hj
        have q := this j p hj
        have e : (if j = qs.length then st x i else st x j) = st x j := by
          by_cases e : j = qs.length
          · rw [if_pos e, e, ql]
          · rw [if_neg e]
        rw [← e]
        exact q
      refine ⟨_, rfl, _, rfl, rfl, _, rfl, eqI (fun e => fin aO ?_) (fun e => fin aZ ?_)⟩
      · have : st x i = ((1, 0, 0, 0), 0) := by unfold st; rw [if_pos (by omega)]
        rw [this]; exact kO _
      · have : st x i = ((0, 0, 0, 0), 0) := by unfold st; rw [if_neg (by omega)]
        rw [this]; exact kZ _
    · rintro ys H2 hy ⟨qs, S2, a2, rfl, ql, v2⟩
      exact kq acc H2 qs hacc S2 a2 ql v2)
  refine ⟨⟨f, _, FO, ?_, kp, m⟩, ⟨f, _, [.int 0 t0], FO, ?_, .cons ⟨_, rfl⟩ .nil, kp, m⟩⟩
  · intro s us XX hl
    have hl' : us.length = 2 := by simpa using hl
    match us, hl' with
    | [a, b], _ => exact BindsTo.of_defaults rfl (XX _ _ l) rfl rfl rfl
  · intro s us XX hl
    have hl' : us.length = 1 := by simpa using hl
    match us, hl' with
    | [a], _ => exact BindsTo.of_defaults rfl (XX _ _ l) rfl rfl rfl
end
end K25

set_option maxHeartbeats 4000000
namespace K25
open PySem PySem.Spec PyProof.Rows L2 Am Pc Ba K14 K15n Hw
open Pt hiding kit_tt
section
variable {P : Program} {w : World} {K : PySem.W.Frag} {mg : Str → Option Value} {base : Heap} {k : Nat} {h : Heap}
theorem call_isinstT {X : Cx} : CallR X (.builtin "isinstance") (fun xs H Q => ∃ a ys, xs = [.ref a, .ty "tuple"] ∧ SqT X.K H a ys ∧ Q (.bl true) H) := by
  intro pins s σ H xs us Q I r h
  obtain ⟨a, ys, rfl, hx, q⟩ := h
  obtain ⟨u, v, rfl, ru, rv⟩ := r.two
  cases ru
  cases rv
  obtain ⟨its, _, ⟨o, h1, h2, _⟩, _⟩ := I.tuple hx
  exact PySem.W.kia_one PySem.W.kitx_tuple I.kIn ⟨o, h1, h2⟩ (kit_tt X.K) (fun z => nomatch z) fun tk => ⟨.bl true, H, I.tok tk, rfl, q⟩
def spAmtIsK (K : PySem.W.Frag) : Sp := fun vs H Q _ => ∃ (p q : Addr) (x : A5), vs = [.ref p, .ref q] ∧ At5 K H p x ∧ At5 K H q x ∧ Q (.bl true) H
def spBoardIsK (K : PySem.W.Frag) : Sp := fun vs H Q _ => ∃ (l m : Addr) (ps qs : List Addr) (f g : Nat → A5), vs = [.ref l, .ref m] ∧ H l = some (.lst (ps.map V.ref)) ∧ H m = some (.lst (qs.map V.ref)) ∧ ps.length = qs.length ∧ ps.length ≤ 64 ∧ ValsK K H ps f ∧ ValsK K H qs g ∧ (∀ i, i < ps.length → f i = g i) ∧ Q (.bl true) H
theorem sc_amtis : FnScope ["_law_found", "_law_due", "_law_k"] ["_law_found", "_law_due"] (defScope (top 50)) := ⟨rfl, rfl, rfl, by decide +kernel, rfl, by decide +kernel, by decide +kernel⟩
theorem ok_amtis (F : FunAt K "_law_amount_is" (top 50) .none) (X : K.In h) (G : h.Ns mainGlobals mg) (B : Bs mg) (c__law_whole : Cal P w K mg base k "_law_whole" ["_law_found"] spWhole) : Cal P w K mg base (k + 1) "_law_amount_is" ["_law_found", "_law_due"] (spAmtIsK K) := by
  have nd := sc_amtis.nd
  refine F.cal X G sc_amtis (bnd2 fun _ _ _ _ _ _ _ _ => rfl) (fun vs H Q E h => ?_) (fun f cdv A outer s H vs Q E hr h => ?_)
  · obtain ⟨p, r, x, rfl, _⟩ := h; rfl
  obtain ⟨p, r, x, rfl, hp, hq, q⟩ := h
  have S : SqT K H p ((l5 x).map V.int) := hp
  have S' : SqT K H r ((l5 x).map V.int) := hq
  refine ⟨_, (@pss_cons _ _ _ _ _ (ps_if (PW.pt (pw_or (pt_not (pt_val (pe_callB call_isinstT rfl B.isinstance boot_isinstance (pa_cons (pv 0) (pa_cons (pe_bltn (v := .ty "tuple") rfl B.tuple boot_tuple rfl) pa_nil))))) (pw_or1 (pt_cmpR op_ne (pe_callB call_len_seq rfl B.len PySem.boot_len (pa_cons (pv 0) pa_nil)) pe_int (nomark _)))))
      (@pss_one _ _ _ (ps_ret pe_bl))
      pss_nil)
    (@pss_cons _ _ _ _ _ (ps_for PassesOwn.never rfl (pi_range1 rfl B.range (pa_cons pe_int pa_nil)) (pg_name (i := 2) nd rfl (Or.inl rfl))
      (@pss_one _ _ _ (ps_if (PW.pt (pw_or (pt_not (pt_val (pe_cal c__law_whole hr rfl (pa_cons (pe_ix ix_tup (pv 0) (pv 2) (fun _ _ => rfl)) pa_nil)))) (pw_or1 (pt_cmpR op_ne (pe_ix ix_tup (pv 0) (pv 2) (fun _ _ => rfl)) (pe_ix ix_tup (pv 1) (pv 2) (fun _ _ => rfl)) (nomark _)))))
        (@pss_one _ _ _ (ps_ret pe_bl))
        pss_nil)))
    (@pss_one _ _ _ (ps_ret pe_bl)))), ?_⟩
  try dsimp only [cxK]
  refine ⟨_, rfl, p, _, rfl, S, _, rfl, iteF ⟨_, rfl, p, _, rfl, .inr S, rfl, _, rfl, neI (fun c => absurd rfl c) (fun _ => ?_)⟩⟩
  refine ⟨5, rfl, by decide, by decide, for_range (n := 5) (fun i σ H' => H' = H ∧ ∃ v, σ = [some (.ref p), some (.ref r), v]) ⟨rfl, _, rfl⟩ ?_ ?_⟩
  · rintro i σ H' hi ⟨rfl, v, rfl⟩
    have e := at_map (ns := l5 x) (i := 0 + (i : Int)) (by omega) (by show 0 + (i : Int) < 5; omega)
    refine ⟨_, rfl, _, rfl, p, _, _, _, rfl, rfl, S, e, _, rfl, _, rfl, iteF ⟨_, rfl, _, rfl, p, _, _, _, rfl, rfl, S, e, _, rfl, _, rfl, r, _, _, _, rfl, rfl, S', e, rfl, _, rfl, neI (fun c => absurd rfl c) (fun _ => ⟨rfl, _, rfl⟩)⟩⟩
  · rintro σ H' ⟨rfl, v, rfl⟩
    exact q

theorem sc_bdis : FnScope ["_law_found", "_law_due", "_law_k"] ["_law_found", "_law_due"] (defScope (top 51)) := ⟨rfl, rfl, rfl, by decide +kernel, rfl, by decide +kernel, by decide +kernel⟩
theorem ok_bdis (F : FunAt K "_law_board_is" (top 51) .none) (X : K.In h) (G : h.Ns mainGlobals mg) (B : Bs mg) (c__law_amount_is : Cal P w K mg base k "_law_amount_is" ["_law_found", "_law_due"] (spAmtIsK K)) : Cal P w K mg base (k + 1) "_law_board_is" ["_law_found", "_law_due"] (spBoardIsK K) := by
  have nd := sc_bdis.nd
  refine F.cal X G sc_bdis (bnd2 fun _ _ _ _ _ _ _ _ => rfl) (fun vs H Q E h => ?_) (fun f cdv A outer s H vs Q E hr h => ?_)
  · obtain ⟨l, m, ps, qs, f, g, rfl, _⟩ := h; rfl
  obtain ⟨l, m, ps, qs, f, g, rfl, h1, h2, len, l64, v1, v2, eq, q⟩ := h
  refine ⟨_, (@pss_cons _ _ _ _ _ (ps_if (PW.pt (pw_or (pt_not (pt_val (pe_callB call_isinst rfl B.isinstance boot_isinstance (pa_cons (pv 0) (pa_cons (pe_bltn (v := .ty "list") rfl B.list boot_list rfl) pa_nil))))) (pw_or1 (pt_cmpR op_ne (pe_callB call_len_seq rfl B.len PySem.boot_len (pa_cons (pv 0) pa_nil)) (pe_callB call_len_seq rfl B.len PySem.boot_len (pa_cons (pv 1) pa_nil)) (nomark _)))))
      (@pss_one _ _ _ (ps_ret pe_bl))
      pss_nil)
    (@pss_cons _ _ _ _ _ (ps_for PassesOwn.never rfl (pi_range1 rfl B.range (pa_cons (pe_callB call_len_seq rfl B.len PySem.boot_len (pa_cons (pv 1) pa_nil)) pa_nil)) (pg_name (i := 2) nd rfl (Or.inl rfl))
      (@pss_one _ _ _ (ps_if (pt_not (pt_val (pe_cal c__law_amount_is hr rfl (pa_cons (pe_ix ix_list (pv 0) (pv 2) (fun _ _ => rfl)) (pa_cons (pe_ix ix_list (pv 1) (pv 2) (fun _ _ => rfl)) pa_nil)))))
        (@pss_one _ _ _ (ps_ret pe_bl))
        pss_nil)))
    (@pss_one _ _ _ (ps_ret pe_bl)))), ?_⟩
  try dsimp only [cxK]
  refine ⟨_, rfl, _, _, _, true, rfl, TyOf.lst h1, kit_ll K, _, rfl, iteF ⟨_, rfl, l, _, rfl, .inl (SqL.of h1), _, rfl, m, _, rfl, .inl (SqL.of h2), rfl, _, rfl, neI (fun c => absurd (by rw [List.length_map, List.length_map, len]) c) (fun _ => ?_)⟩⟩
  have hl : (((qs.map V.ref).length : Nat) : Int).toNat = ps.length := by rw [List.length_map, len]; omega
  refine ⟨_, rfl, m, _, rfl, .inl (SqL.of h2), _, rfl, by rw [List.length_map]; omega, by rw [List.length_map]; omega, for_range (n := (((qs.map V.ref).length : Nat) : Int).toNat) (fun i σ H' => H' = H ∧ ∃ v, σ = [some (.ref l), some (.ref m), v]) ⟨rfl, _, rfl⟩ ?_ ?_⟩
  · rintro i σ H' hi ⟨rfl, v, rfl⟩
    rw [hl] at hi
    have e1 := at_refs (ps := ps) (j := 0 + (i : Int)) hi (by omega)
    have e2 := at_refs (ps := qs) (j := 0 + (i : Int)) (show i < qs.length by omega) (by omega)
    refine ⟨_, rfl, _, rfl, l, _, _, _, rfl, rfl, SqL.of h1, e1, _, rfl, _, rfl, m, _, _, _, rfl, rfl, SqL.of h2, e2, _, _, f i, rfl, v1 i _ (List.getElem?_eq_getElem hi), ?_, _, rfl, iteF ⟨rfl, _, rfl⟩⟩
    rw [eq i hi]
    exact v2 i _ (List.getElem?_eq_getElem (show i < qs.length by omega))
  · rintro σ H' ⟨rfl, v, rfl⟩
    exact q
end
end K25

set_option maxHeartbeats 4000000
/-! an exception leaves a def: what is kept, exactly -/
namespace Ex
open PySem PySem.Spec PyProof.Rows
def Tr (e T : Addr) (cls fl : Value) (h : Heap) : Prop := ∃ oe vs oT ts, h.get? e = some oe ∧ (oe.cls = cls ∧ oe.dict = none) ∧ oe.data = .fields vs ∧ vs[1]? = some (.ref T) ∧ T ≠ e ∧ h.get? T = some oT ∧ oT.data = .fields ts ∧ ts[3]? = some fl ∧ 3 < ts.size
structure Kp (fs xs : List Addr) (h h' : Heap) : Prop where
  keep : ∀ b o, h.get? b = some o → b ∉ fs → b ∉ xs → h'.get? b = some o
  slot : ∀ b o, h.get? b = some o → b ∉ xs → ∃ sl, h'.get? b = some { o with slots := sl }
  there : ∀ b o, h.get? b = some o → ∃ o', h'.get? b = some o'
/-! what is kept, put together from single changes -/
section
variable {fs xs : List Addr} {h h1 h2 : Heap}
theorem Kp.trans (p : Kp fs xs h h1) (q : Kp fs xs h1 h2) : Kp fs xs h h2 where
  keep := fun b o e n m => q.keep b o (p.keep b o e n m) n m
  slot := fun b o e m => by
    obtain ⟨sl, e1⟩ := p.slot b o e m
    obtain ⟨sl2, e2⟩ := q.slot b _ e1 m
    exact ⟨sl2, e2⟩
  there := fun b o e => by
    obtain ⟨o1, e1⟩ := p.there b o e
    exact q.there b o1 e1
theorem Kp.same (k : ∀ b o, h.get? b = some o → h1.get? b = some o) : Kp fs xs h h1 := ⟨fun b o e _ _ => k b o e, fun b o e _ => ⟨o.slots, k b o e⟩, fun b o e => ⟨o, k b o e⟩⟩
theorem Kp.new (o : Obj) : Kp fs xs h (h.push o) := .same fun _ _ e => Heap.get?_push_of_some _ e
theorem Kp.slots (p : Heap.SlotsOnly fs h h1) : Kp fs xs h h1 where
  keep := fun b o e n _ => (p.2.1 b n).trans e
  slot := fun b o e _ => p.2.2 b o e
  there := fun b o e => let ⟨_, q⟩ := p.2.2 b o e; ⟨_, q⟩
theorem Kp.field {a : Addr} {o : Obj} {vs : Array Value} {f : Array Value → Array Value} (ha : a ∈ xs) (e : h.get? a = some o) (d : o.data = .fields vs) : Kp fs xs h (h.update a (Obj.mapFields f)) := by
  have k : ∀ b u, b ≠ a → h.get? b = some u → (h.update a (Obj.mapFields f)).get? b = some u := fun b u n q => (Heap.get?_update_other _ _ n.symm).trans q
  have at_a := Heap.get?_update_self (Obj.mapFields f) e (Obj.isFreed_of_fields (Obj.data_mapFields d f))
  exact ⟨fun b u q _ m => k b u (fun z => m (z ▸ ha)) q, fun b u q m => ⟨u.slots, k b u (fun z => m (z ▸ ha)) q⟩, fun b u q => (Classical.em (b = a)).elim (fun z => ⟨o.mapFields f, by rw [z]; exact at_a⟩) fun z => ⟨u, k b u z q⟩⟩
theorem Kp.fresh (p : Kp fs xs h h1) {b : Addr} (e : h1.get? b = none) : h.get? b = none := by
  cases q : h.get? b with
  | none => rfl
  | some o => obtain ⟨o', e'⟩ := p.there b o q; rw [e] at e'; cases e'
end
def Rec (h : Heap) (a : Addr) (o : Obj) (vs : Array Value) : Prop := h.get? a = some o ∧ o.data = .fields vs
theorem Rec.put {h : Heap} {a : Addr} {o : Obj} {vs : Array Value} (r : Rec h a o vs) (f : Array Value → Array Value) : Rec (h.update a (Obj.mapFields f)) a (o.mapFields f) (f vs) :=
  ⟨Heap.get?_update_self _ r.1 (Obj.isFreed_of_fields (Obj.data_mapFields r.2 f)), Obj.data_mapFields r.2 f⟩
theorem Rec.off {h : Heap} {a b : Addr} {o : Obj} {vs : Array Value} (r : Rec h a o vs) (n : a ≠ b) (f : Obj → Obj) : Rec (h.update b f) a o vs := ⟨(Heap.get?_update_other _ _ n.symm).trans r.1, r.2⟩
theorem put_cls (o : Obj) (f : Array Value → Array Value) : (o.mapFields f).cls = o.cls ∧ (o.mapFields f).dict = o.dict := by
  obtain ⟨c, d, dt, sl⟩ := o
  cases dt <;> exact ⟨rfl, rfl⟩
theorem Tr.of {h : Heap} {e T : Addr} {oe oT : Obj} {vs ts : Array Value} {cls fl : Value} (r : Rec h e oe vs) (c : oe.cls = cls ∧ oe.dict = none) (r' : Rec h T oT ts) (n : T ≠ e) (v : vs[1]? = some (.ref T)) (t : ts[3]? = some fl) (z : 3 < ts.size) : Tr e T cls fl h :=
  ⟨oe, vs, oT, ts, r.1, c, r.2, v, n, r'.1, r'.2, t, z⟩
section
variable {M : Model} {A : Around} {E : Value → Shared → Prop} {s : Shared}
theorem hung {base : Heap} {env : Env} {outer : List Env} {L e : Addr} {oe : Obj} {vs : Array Value} {head : Value} {b : Bool} {xs : List Addr} {Q : Unit → Shared → Prop}
    (ha : A.frames = some (env :: outer)) (hf : s.heap.FunFrames base (env :: outer)) (hl : env.frame = some L) (r : Rec s.heap e oe vs) (hd : oe.dict = none) (two : 1 < vs.size) (he : e ∈ xs)
    (k : ∀ h' T, s.heap.get? T = none → Tr e T oe.cls .none h' → Kp ((env :: outer).filterMap (·.frame)) xs s.heap h' → Q () { s with heap := h' }) :
    wpAny M A (do let a ← frameOf env; let pl ← entryPlaceOf L b; let t ← EntryCells.newEntry head a .none (rawInt L) .none pl; setField (.ref e) 1 t) (fun _ s' => wpAny M A (setFlight (.ref e) none) Q E s') E s := by
  have nf : e ∉ (env :: outer).filterMap (·.frame) := fun z => by
    obtain ⟨_, o, q, n⟩ := hf.mem z
    exact n vs (Option.some.inj (r.1.symm.trans q) ▸ r.2)
  refine wpAny_bind (wpAny_frameOf_fun ha hf hl fun h1 sl => wpAny_bind (wpAny_entryPlaceOf fun pl place => wpAny_bind ?_))
  have p1 : Kp ((env :: outer).filterMap (·.frame)) xs s.heap h1 := .slots sl
  have r1 : Rec h1 e oe vs := ⟨(sl.2.1 e nf).trans r.1, r.2⟩
  have ne : h1.objs.size ≠ e := Nat.ne_of_gt (Heap.lt_size r1.1)
  have new : s.heap.get? h1.objs.size = none := p1.fresh (Heap.get?_none_of_le (Nat.le_refl _))
  simp only [EntryCells.newEntry, newFields]
  refine wpAny_newObj_type ?_ (place.sizeOk5 _ _ _ _ _)
  obtain ⟨o, ho, ts, d, t3, tz⟩ : ∃ o : Obj, o = { cls := .type "traceback", dict := none, data := .fields ([head, .ref L, .none, rawInt L, .none] ++ (if pl.isEmpty then List.replicate 6 Value.none else pl)).toArray } ∧ ∃ ts : Array Value, o.data = .fields ts ∧ ts[3]? = some (rawInt L) ∧ 3 < ts.size := by
    refine ⟨_, rfl, _, rfl, ?_, ?_⟩
    · rcases place with rfl | ⟨_, _, _, _, _, _, _, rfl⟩ <;> simp
    · simp only [List.size_toArray, List.length_append, List.length_cons, List.length_nil]; omega
  rw [← ho]
  have r2 : Rec (h1.push o) e oe vs := ⟨Heap.get?_push_of_some _ r1.1, r1.2⟩
  have n2 : Rec (h1.push o) h1.objs.size o ts := ⟨Heap.get?_push_size _ (Obj.isFreed_of_fields d), d⟩
  have p2 := p1.trans (Kp.new o)
  refine wpAny_setField r2.1 r2.2 two ?_
  have r3 := r2.put (·.setIfInBounds 1 (Value.ref h1.objs.size))
  have n3 := n2.off ne (Obj.mapFields (·.setIfInBounds 1 (Value.ref h1.objs.size)))
  have p3 := p2.trans (Kp.field (f := (·.setIfInBounds 1 (Value.ref h1.objs.size))) he r2.1 r2.2)
  have v1 : (vs.setIfInBounds 1 (Value.ref h1.objs.size))[1]? = some (.ref h1.objs.size) := by simp [two]
  refine wpAny_setFlight_none r3.1 r3.2 v1 n3.1 n3.2 tz (k _ h1.objs.size new ?_ ?_)
  · have c := put_cls oe (·.setIfInBounds 1 (Value.ref h1.objs.size))
    exact Tr.of (r3.off ne.symm _) ⟨c.1, c.2.trans hd⟩ (n3.put _) ne v1 (by simp [tz]) (by simpa using tz)
  · have q : ∀ b u, b ≠ h1.objs.size → Heap.get? ((h1.push o).update e (Obj.mapFields (·.setIfInBounds 1 (Value.ref h1.objs.size)))) b = some u → Heap.get? (((h1.push o).update e (Obj.mapFields (·.setIfInBounds 1 (Value.ref h1.objs.size)))).update h1.objs.size (Obj.mapFields (·.setIfInBounds 3 .none))) b = some u := fun b u n z => (Heap.get?_update_other _ _ n.symm).trans z
    have old : ∀ b u, s.heap.get? b = some u → b ≠ h1.objs.size := fun b u z w => by rw [w, new] at z; cases z
    exact ⟨fun b u z n m => q b u (old b u z) (p3.keep b u z n m), fun b u z m => let ⟨sl, w⟩ := p3.slot b u z m; ⟨sl, q b _ (old b u z) w⟩, fun b u z => let ⟨u', w⟩ := p3.there b u z; ⟨u', q b u' (old b u z) w⟩⟩
theorem flight {e T : Addr} {cls fl : Value} {Q : Unit → Shared → Prop} (t : Tr e T cls fl s.heap) (k : ∀ h', Tr e T cls .none h' → (∀ b, b ≠ T → h'.get? b = s.heap.get? b) → Q () { s with heap := h' }) : wpAny M A (setFlight (.ref e) none) Q E s := by
  obtain ⟨oe, vs, oT, ts, e1, c, e2, v, n, t1, t2, -, z⟩ := t
  have r : Rec s.heap e oe vs := ⟨e1, e2⟩
  have r' : Rec s.heap T oT ts := ⟨t1, t2⟩
  exact wpAny_setFlight_none e1 e2 v t1 t2 z (k _ (Tr.of (r.off n.symm _) c (r'.put _) n v (by simp [z]) (by simpa using z)) fun b m => Heap.get?_update_other _ _ m.symm)
theorem leave_first {base : Heap} {env : Env} {outer : List Env} {L e : Addr} {oe : Obj} {vs : Array Value} {Q : Unit → Shared → Prop}
    (ha : A.frames = some (env :: outer)) (hf : s.heap.FunFrames base (env :: outer)) (hl : env.frame = some L) (e1 : s.heap.get? e = some oe) (hd : oe.dict = none) (e2 : oe.data = .fields vs) (one : vs[1]? = some .none)
    (k : ∀ h' T, s.heap.get? T = none → Tr e T oe.cls .none h' → Kp ((env :: outer).filterMap (·.frame)) [e] s.heap h' → Q () { s with heap := h' }) : wpAny M A (leaving env (.ref e)) Q E s := by
  have r : Rec s.heap e oe vs := ⟨e1, e2⟩
  unfold leaving noteFrame
  simp only [hl]
  exact wpAny_bind (wpAny_bind (wpAny_field e1 e2 one (hung ha hf hl r hd (Array.getElem?_eq_some_iff.mp one).1 (by simp) k)))
theorem note_next {base : Heap} {env : Env} {outer : List Env} {L e T0 : Addr} {cls : Value} {Q : Unit → Shared → Prop}
    (ha : A.frames = some (env :: outer)) (hf : s.heap.FunFrames base (env :: outer)) (hl : env.frame = some L) (ht : Tr e T0 cls .none s.heap)
    (k : ∀ h' T, s.heap.get? T = none → Tr e T cls .none h' → Kp ((env :: outer).filterMap (·.frame)) [e, T0] s.heap h' → Q () { s with heap := h' }) : wpAny M A (noteFrame (.ref e) env) (fun _ s' => wpAny M A (setFlight (.ref e) none) Q E s') E s := by
  obtain ⟨oe, vs, oT, ts, e1, ⟨c, hd⟩, e2, one, n, t1, t2, three, room⟩ := ht
  have r : Rec s.heap e oe vs := ⟨e1, e2⟩
  have r' : Rec s.heap T0 oT ts := ⟨t1, t2⟩
  have p : Kp ((env :: outer).filterMap (·.frame)) [e, T0] s.heap (s.heap.update T0 (Obj.mapFields (·.setIfInBounds 3 Value.none))) := .field (by simp) t1 t2
  have fr : Heap.FunFrames (s.heap.update T0 (Obj.mapFields (·.setIfInBounds 3 Value.none))) base (env :: outer) := hf.of_keeps fun b o q nf => ⟨o, (Heap.get?_update_other _ _ fun z => by
    rw [← z, t1] at q; exact nf ts (Option.some.inj q ▸ t2)).trans q, rfl⟩
  unfold noteFrame
  simp only [hl]
  refine wpAny_bind (wpAny_field e1 e2 one ?_)
  simp only [show (Value.ref T0 != Value.none) = true from rfl, if_true]
  refine wpAny_bind (wpAny_field t1 t2 three ?_)
  simp only [show (Value.none == rawInt L) = false from rfl, Bool.false_eq_true, if_false]
  refine wpAny_bind (wpAny_setField t1 t2 room ?_)
  refine hung (s := { s with heap := s.heap.update T0 (Obj.mapFields (·.setIfInBounds 3 Value.none)) }) (xs := [e, T0]) ha fr hl (r.off n.symm _) hd (Array.getElem?_eq_some_iff.mp one).1 (.head _) fun h' T nw tr q => ?_
  rw [c] at tr
  exact k h' T (p.fresh nw) tr (p.trans q)
theorem leave_next {base : Heap} {env : Env} {outer : List Env} {L e T0 : Addr} {cls : Value} {Q : Unit → Shared → Prop}
    (ha : A.frames = some (env :: outer)) (hf : s.heap.FunFrames base (env :: outer)) (hl : env.frame = some L) (ht : Tr e T0 cls .none s.heap)
    (k : ∀ h' T, s.heap.get? T = none → Tr e T cls .none h' → Kp ((env :: outer).filterMap (·.frame)) [e, T0] s.heap h' → Q () { s with heap := h' }) : wpAny M A (leaving env (.ref e)) Q E s :=
  wpAny_bind (note_next ha hf hl ht k)
end
end Ex
namespace L2
open PySem PySem.Spec PyProof.Rows Ex
def CX1 (P : Program) (w : World) : CXT := fun outer H s E e s' => ∃ (a T : Addr) (cls : Value) (H' : Hp), e = .ref a ∧ s'.os = s.os ∧ AllBare s'.gens ∧ Un (frs outer) [] H H' s.heap s'.heap ∧ HOk P w H' s'.heap ∧
  Tr a T cls .none s'.heap ∧ s.heap.get? a = none ∧ s.heap.get? T = none ∧ H' a = none ∧ H' T = none ∧ E cls none H'
end L2

set_option maxHeartbeats 4000000
namespace L2
open PySem PySem.Spec PyProof.Rows Ex
theorem ObjOk.get {P : Program} {w : World} {H : Hp} {h : Heap} {a : Addr} {o : HO} (x : ObjOk P w H h a o) : ∃ ob, h.get? a = some ob := by
  cases o with
  | lst xs => obtain ⟨_, _, _, _, e⟩ := x; exact ⟨_, e⟩
  | tup xs => obtain ⟨_, _, _, ob, e, _⟩ := x; exact ⟨_, e⟩
  | dK kvs => obtain ⟨_, _, _, _, o, _, _, e, _⟩ := x; exact ⟨_, e⟩
  | dT kvs => obtain ⟨_, _, _, _, o, _, _, e, _⟩ := x; exact ⟨_, e⟩
  | set S n => obtain ⟨o, _, _, _, e, _⟩ := x; exact ⟨_, e⟩
  | ins C dx fs => obtain ⟨_, _, _, e, _⟩ := x; exact ⟨_, e⟩
  | own y => obtain ⟨_, e⟩ := x; exact ⟨_, e⟩
  | xd fs => obtain ⟨_, ⟨_, _, _, e, _⟩, _⟩ := x; exact ⟨_, e⟩
  | rng lo hi => obtain ⟨_, _, _, e⟩ := x; exact ⟨_, e⟩
  | frz ob u => obtain ⟨e, _⟩ := x; exact ⟨_, e⟩
  | tbl ps => exact ⟨_, x⟩
  | met f y => exact ⟨_, x⟩
  | ext φ => obtain ⟨_, ⟨_, e⟩, _⟩ := x; exact ⟨_, e⟩
structure Flies (X : Cx) (E : XK) : Prop where
  xe : ∀ e s', wpAny (model X.prog X.w) X.A (leaving X.env e) (fun _ s'' => CX1 X.prog X.w X.outer X.H₀ X.s₀ E e s'') (fun e' s'' => CX1 X.prog X.w X.outer X.H₀ X.s₀ E e' s'') s' → X.xe e s'
  stk : X.stack = X.env :: X.outer ∧ X.env.frame = some X.env.locals
  ex : X.ex = []
section
variable {X : Cx} {pins : List (Addr × Obj)} {σ : St} {H : Hp} {s : Shared} {E : XK}
theorem Inv.new0 (I : Inv X pins σ H s) (F : Flies X E) {b : Addr} (hb : s.heap.get? b = none) : X.s₀.heap.get? b = none := by
  cases q : X.s₀.heap.get? b with
  | none => rfl
  | some o =>
    obtain ⟨o', e'⟩ := I.base.there b o q (by rw [F.ex]; intro z; cases z)
    rw [hb] at e'; cases e'
theorem Inv.newH (I : Inv X pins σ H s) {b : Addr} (hb : s.heap.get? b = none) : H b = none := by
  cases q : H b with
  | none => rfl
  | some o =>
    obtain ⟨ob, e'⟩ := ObjOk.get (I.hok b o q)
    rw [hb] at e'; cases e'
theorem Inv.left {h1 h' : Heap} {e T : Addr} {xs : List Addr} {cls : Value} (I : Inv X pins σ H s) (F : Flies X E) (k1 : ∀ b o, s.heap.get? b = some o → h1.get? b = some o) (hxs : ∀ b ∈ xs, X.s₀.heap.get? b = none ∧ H b = none)
    (kp : Kp ((X.env :: X.outer).filterMap (·.frame)) xs h1 h') (he : X.s₀.heap.get? e = none ∧ H e = none) (hT : X.s₀.heap.get? T = none ∧ H T = none) (tr : Tr e T cls .none h') (q : E cls none H) : CX1 X.prog X.w X.outer X.H₀ X.s₀ E (.ref e) { s with heap := h' } := by
  have hfs : ∀ b, b ∈ (X.env :: X.outer).filterMap (·.frame) → b = X.env.locals ∨ b ∈ X.fs := fun b hb => by
    have := I.stkSub b (by rw [F.stk.1]; exact hb)
    exact List.mem_cons.mp this
  have old : ∀ b o, X.s₀.heap.get? b = some o → b ≠ X.env.locals := fun b o hb z => by
    have h1 := Heap.lt_size hb
    have h2 := I.ok.above
    rw [z] at h1
    exact Nat.lt_irrefl _ (Nat.lt_of_lt_of_le h1 h2)
  have nex : ∀ b, b ∉ X.ex := fun b hb => by rw [F.ex] at hb; cases hb
  have nxs : ∀ b o, X.s₀.heap.get? b = some o → b ∉ xs := fun b o hb hm => by rw [(hxs b hm).1] at hb; cases hb
  refine ⟨e, T, cls, H, rfl, I.os, I.bare, ⟨fun b o hb hn hf _ => ?_, fun b o hb hn hf _ => ?_, fun b o hb hn _ => I.base.free b o hb hn (nex b), fun b o hb _ => ?_, I.base.tups, I.base.frzs, I.base.tbls⟩, fun a o ha => ?_, tr, he.1, hT.1, he.2, hT.2, q⟩
  · have q1 := I.base.keep b o hb hn hf (nex b)
    exact kp.keep b o (k1 b o q1) (fun hm => (hfs b hm).elim (old b o hb) hf) (nxs b o hb)
  · obtain ⟨sl, q1⟩ := I.base.slot b o hb hn hf (nex b)
    obtain ⟨sl2, q2⟩ := kp.slot b _ (k1 b _ q1) (nxs b o hb)
    exact ⟨sl2, q2⟩
  · obtain ⟨o', q1⟩ := I.base.there b o hb (nex b)
    exact kp.there b o' (k1 b o' q1)
  · refine (I.hok a o ha).stay (fun c v hc q => ?_) (fun _ q => q) fun _ _ q => q
    have hcn : ∃ u, H c = some u := by
      rcases hc with z | z
      · rw [z]; exact ⟨_, ha⟩
      · exact ⟨_, z⟩
    obtain ⟨u, hu⟩ := hcn
    refine kp.keep c v (k1 c v q) (fun hm => ?_) (fun hm => by rw [(hxs c hm).2] at hu; cases hu)
    have := I.stkFree c (by rw [F.stk.1]; exact hm)
    rw [hu] at this; cases this
theorem Inv.fly {h1 : Heap} {e : Addr} {cls : Value} {args : List Value} (I : Inv X pins σ H s) (F : Flies X E) (m : Heap.MadeExcOf s.heap h1 e cls args) (q : E cls none H) : X.xe (.ref e) { s with heap := h1 } := by
  refine F.xe _ _ ?_
  obtain ⟨t, he, _, _⟩ := m.there
  have ne : X.s₀.heap.get? e = none ∧ H e = none := ⟨I.new0 F m.new, I.newH m.new⟩
  refine leave_first (base := X.base) (outer := X.outer) (s := { s with heap := h1 }) (by rw [I.ok.frames, F.stk.1]) ((by rw [← F.stk.1]; exact I.stack : s.heap.FunFrames X.base (X.env :: X.outer)).of_keeps fun b o hb _ => ⟨o, m.keeps b o hb, rfl⟩) F.stk.2 he rfl rfl rfl fun h' T nT tr kp => ?_
  have nT' : s.heap.get? T = none := by
    cases q : s.heap.get? T with
    | none => rfl
    | some o =>
      have nT2 : h1.get? T = none := nT
      rw [m.keeps T o q] at nT2; cases nT2
  exact Inv.left (s := s) (h1 := h1) (h' := h') I F m.keeps (fun b hb => by rw [List.mem_singleton.mp hb]; exact ne) kp ne ⟨I.new0 F nT', I.newH nT'⟩ tr q
theorem Inv.flyOn {E' : XK} {e : Value} {s' : Shared} (I : Inv X pins σ H s) (F : Flies X E) (c : CX1 X.prog X.w X.stack H s E' e s') (hE : ∀ cls H', E' cls none H' → E cls none H') : X.xe e s' := by
  obtain ⟨a, T, cls, H1, rfl, os, bare, un, hok, tr, na, nT, ha, hT, q⟩ := c
  have I1 : Inv X pins σ H1 s' := I.call' (ch := []) os un hok bare (fun b hb => by cases hb)
  refine F.xe _ _ ?_
  refine leave_next (base := X.base) (outer := X.outer) (by rw [I.ok.frames, F.stk.1]) (by rw [← F.stk.1]; exact I1.stack) F.stk.2 tr fun h' T' nT' tr' kp => ?_
  refine Inv.left (s := s') (h1 := s'.heap) (h' := h') I1 F (fun b o hb => hb) (fun b hb => ?_) kp ⟨I.new0 F na, ha⟩ ⟨I1.new0 F nT', I1.newH nT'⟩ tr' (hE _ _ q)
  simp only [List.mem_cons, List.not_mem_nil, or_false] at hb
  rcases hb with rfl | rfl
  · exact ⟨I.new0 F na, ha⟩
  · exact ⟨I.new0 F nT, hT⟩
theorem Flies.passes {E' : XK} (F : Flies X E) (hE : ∀ cls H', E' cls none H' → E cls none H') : Passes (CX1 X.prog X.w) X E' := fun pins σ H s e s' I c => I.flyOn F c hE
theorem flies_of {P : Program} {w : World} {K : PySem.W.Frag} {mg : Str → Option Value} {base : Heap} {N : List Str} {qual : Str} {scope : Scope} {f : Addr} {cd : Value} {A : Around} {outer : List Env} {s : Shared} {H : Hp} {E : XK} :
    Flies (cxOf (CX1 P w) P w K mg base N qual scope f cd A outer s H E) E := ⟨fun _ _ h => h, ⟨rfl, rfl⟩, rfl⟩
end
end L2

set_option maxHeartbeats 4000000
namespace L2
open PySem PySem.Spec PyProof.Rows Ex
abbrev bmVE : List Value := [.type "ValueError", .type "Exception", .type "BaseException", .type "object"]
structure ExcAt (K : PySem.W.Frag) (C : Addr) (bm : List Value) : Prop where
  ex : ∃ N nm q bs hdct sn sub ab col dd k0 k1 k2 k3 k5, K.lookup C = some (excClassObj nm q C N bs bm hdct sn sub ab col dd k0 k1 k2 k3 k5 "ValueError.__new__") ∧ PySem.W.nsOkIn K N = true ∧ PySem.W.nsIn K N "__init__" = some none
  tail : PySem.W.tailIn K bmVE bm = true
theorem excAt {K : PySem.W.Frag} {C N : Addr} {nm q : Str} {bs bm : List Value} {hdct : Bool} {sn : List Str} {sub : List Value} {ab : Bool} {col : Option Bool} {dd : Option Addr} {k0 k1 k2 k3 k5 : Option Value}
    (l : K.lookup C = some (excClassObj nm q C N bs bm hdct sn sub ab col dd k0 k1 k2 k3 k5 "ValueError.__new__")) (o : PySem.W.nsOkIn K N = true) (n : PySem.W.nsIn K N "__init__" = some none) (t : PySem.W.tailIn K bmVE bm = true) : ExcAt K C bm :=
  ⟨⟨N, nm, q, bs, hdct, sn, sub, ab, col, dd, k0, k1, k2, k3, k5, l, o, n⟩, t⟩
section
variable {X : Cx} {E : XK} {x : Str} {C : Addr} {e : Expr} {es : List Expr} {t : TA} {np cpos pos : Pos} {bm : List Value}
def tRaise (E : XK) (C : Addr) (t : TA) : TS := fun _ σ H => t σ H fun vs H1 => vs.length ≤ sizeLine ∧ E (.ref C) none H1
theorem ps_raise (F : Flies X E) (hc : X.calm = true) (hg : Gl X x) (hm : X.mg x = some (.ref C)) (hx : ExcAt X.K C bm) (ha : PA X (e :: es) t) (hdb : (x == ("__debug__" : Str)) = false := by decide)
    (he : starEach (e :: es) X.env = (false, eval e X.env) :: starEach es X.env := by rfl) (hpl : (backTo cpos (starEach es X.env)).any (·.1) = false := by rfl) :
    PS X (.Raise (some (.Call (.Name x np) (e :: es) [] cpos)) none pos) (tRaise E C t) := by
  intro pins s σ H D I h
  obtain ⟨N, nm, q, bs, hdct, sn, sub, ab, col, dd, k0, k1, k2, k3, k5, lk, ok, ni⟩ := hx.ex
  have KX := I.ok.mod.kin
  have hC := KX _ _ lk
  have hN : X.base.Ns N _ := .of_isNs (PySem.W.isNs_of_in KX ok)
  have hni := PySem.W.nsMap_none_of_in KX ok ni
  have T := PySem.W.tail_of_in KX hx.tail
  refine wpAny_Raise_call_subT (C := C) (nm := nm) (q := q) (N := N) (bs := bs) (bm := bm) (hdct := hdct) (sn := sn) (sub := sub) (ab := ab) (col := col) (dd := dd) (k0 := k0) (k1 := k1) (k2 := k2) (k3 := k3) (k5 := k5)
    PySem.F.excBase_ValueError (T.hasType PySem.F.excBase_ValueError.hasBase) (I.ok.hd hc) (by rw [he]; show (false || (backTo cpos (starEach es X.env)).any (·.1)) = false; rw [hpl]; rfl) hni (ld_glob I hg hm ⟨rfl, ?_⟩ hdb)
  have h2 := ha cpos pins s σ H _ I h
  rw [he] at h2 ⊢
  refine Calls.evalArgs_plain (wpAny_mono h2 (fun us s1 ⟨vs, H1, I1, r1, hl, q1⟩ => ⟨rfl, by rw [← r1.length]; exact hl, I1.bk _ _ hC, hN.keeps I1.bk, T.keeps I1.bk, fun h' a m => I1.fly F m q1⟩) fun _ _ y => y)
end
end L2

set_option maxHeartbeats 4000000
namespace PySem
section
variable {M : Model} {A : Around} {E : Value → Shared → Prop}
theorem excMatches_base {h : Heap} {g : Array GenState} {d : Drawn} {t : Nat} {os : OsState} {e C D : Addr} {oe : Obj} {Q : Bool → Shared → Prop}
    {nm q : Str} {N : Addr} {bs bm : List Value} {hdct : Bool} {sn : List Str} {sub : List Value} {ab : Bool} {col : Option Bool} {dd : Option Addr} {k0 k1 k2 k3 k5 : Option Value} {newId : String}
    {nm' q' : Str} {N' : Addr} {bs' bm' : List Value} {hdct' : Bool} {sn' : List Str} {sub' : List Value} {ab' : Bool} {col' : Option Bool} {dd' : Option Addr} {k0' k1' k2' k3' k5' : Option Value} {newId' : String}
    (hC : h.get? C = some (excClassObj nm q C N bs bm hdct sn sub ab col dd k0 k1 k2 k3 k5 newId)) (hD : h.get? D = some (excClassObj nm' q' D N' bs' bm' hdct' sn' sub' ab' col' dd' k0' k1' k2' k3' k5' newId'))
    (he : h.get? e = some oe) (hcls : oe.cls = .ref C) (hbase : bm'.contains (.type "BaseException") = true) (hsub : (Value.ref C :: bm).contains (.ref D) = true)
    (hq : Q true ⟨h, g, d, t, os⟩) : wpAny M A (excMatches (.ref e) (.ref D)) Q E ⟨h, g, d, t, os⟩ := by
  have hcB : (Value.ref D :: bm').contains (.type "BaseException") = true := by rw [List.contains_cons, hbase, Bool.or_true]
  have f := tc_notTuple
  unfold excMatches
  repeat (first | (with_reducible refine wpAny_loadPart_at he ?_; rw [hcls]) | with_reducible refine wpAny_loadPart_at hD ?_ | (with_reducible refine wpAny_isSubtype_exc hD ?_; rw [hcB]) | (with_reducible refine wpAny_isSubtype_exc hC ?_; rw [hsub]) | wp_step)
  exact hq
end
end PySem
namespace L2
open PySem PySem.Spec PyProof.Rows Ex
def ExcO (a : Addr) (cls : Value) : HO := .ext fun h => ∃ o vs, h.get? a = some o ∧ (o.cls = cls ∧ o.dict = none) ∧ o.data = .fields vs
def Xt (X : Cx) (pins : List (Addr × Obj)) (σ0 : St) (E : XK) : Cx := { X with pn := X.pn ++ pins, xe := fun e s' => ∃ H1 s1, Inv X pins σ0 H1 s1 ∧ CX1 X.prog X.w X.stack H1 s1 E e s' }
theorem Inv.ofXt {X : Cx} {pins p2 : List (Addr × Obj)} {σ0 σ : St} {E : XK} {H : Hp} {s : Shared} (I : Inv (Xt X pins σ0 E) p2 σ H s) : Inv X pins σ H s :=
  ⟨⟨I.ok.mod, I.ok.kind, I.ok.glob, I.ok.blt, I.ok.above, I.ok.inj, I.ok.has, I.ok.cab, I.ok.hd, I.ok.frames, I.ok.stk, I.ok.exf, I.ok.bs, I.ok.bsz, I.ok.noex, I.ok.exfs, I.ok.funs, I.ok.frf⟩,
    I.os, I.bare, I.base, I.loc, I.cell, I.free, I.freeC, fun p hp => I.pin p (List.mem_append_left _ hp), I.hok, I.len⟩
theorem Inv.toXt {X : Cx} {pins : List (Addr × Obj)} {σ0 σ : St} {E : XK} {H : Hp} {s : Shared} (I : Inv X pins σ H s) : Inv (Xt X pins σ0 E) [] σ H s :=
  ⟨⟨I.ok.mod, I.ok.kind, I.ok.glob, I.ok.blt, I.ok.above, I.ok.inj, I.ok.has, I.ok.cab, I.ok.hd, I.ok.frames, I.ok.stk, I.ok.exf, I.ok.bs, I.ok.bsz, I.ok.noex, I.ok.exfs, I.ok.funs, I.ok.frf⟩,
    I.os, I.bare, I.base, I.loc, I.cell, I.free, I.freeC, fun p hp => I.pin p (by rw [List.append_nil] at hp; exact hp), I.hok, I.len⟩
def Xh (X : Cx) (a : Addr) : Cx := { X with A := X.A.mark (some (.ref a)), calm := false, xe := fun _ _ => False }
theorem Inv.toXh {X : Cx} {pins : List (Addr × Obj)} {σ : St} {a : Addr} {H : Hp} {s : Shared} (I : Inv X pins σ H s) : Inv (Xh X a) pins σ H s :=
  ⟨⟨I.ok.mod, I.ok.kind, I.ok.glob, I.ok.blt, I.ok.above, I.ok.inj, I.ok.has, I.ok.cab, (fun z => by cases z), I.ok.frames, I.ok.stk, I.ok.exf, I.ok.bs, I.ok.bsz, I.ok.noex, I.ok.exfs, I.ok.funs, I.ok.frf⟩,
    I.os, I.bare, I.base, I.loc, I.cell, I.free, I.freeC, I.pin, I.hok, I.len⟩
theorem Inv.ofXh {X : Cx} {pins : List (Addr × Obj)} {σ : St} {a : Addr} {H : Hp} {s : Shared} (ok : X.Ok) (I : Inv (Xh X a) pins σ H s) : Inv X pins σ H s :=
  ⟨ok, I.os, I.bare, I.base, I.loc, I.cell, I.free, I.freeC, I.pin, I.hok, I.len⟩
theorem Inv.landed {X : Cx} {pins : List (Addr × Obj)} {σ : St} {H1 H' : Hp} {s1 s' : Shared} {a T T' : Addr} {cls : Value} {h' : Heap} (I : Inv X pins σ H1 s1) (os : s'.os = s1.os) (bare : AllBare s'.gens) (un : Un (frs X.stack) [] H1 H' s1.heap s'.heap) (hok : HOk X.prog X.w H' s'.heap)
    (kp : Kp (frs X.stack) [a, T] s'.heap h') (na : s1.heap.get? a = none) (nT : s1.heap.get? T = none) (ha : H' a = none) (hT : H' T = none) (tr : Tr a T' cls .none h') : Inv X pins σ (upd H' a (ExcO a cls)) { s' with heap := h' } := by
  obtain ⟨oe, vs, oT, ts, he, hc, hd, h1, hTe, hT', hdT, h3, hz⟩ := tr
  have nx : ∀ b o, s1.heap.get? b = some o → b ∉ [a, T] := fun b o hb hm => by
    simp only [List.mem_cons, List.not_mem_nil, or_false] at hm
    rcases hm with rfl | rfl
    · rw [na] at hb; cases hb
    · rw [nT] at hb; cases hb
  have nea : ∀ b u, H' b = some u → b ≠ a := fun b u hb z => by rw [z, ha] at hb; cases hb
  have frn : ∀ b, b ∈ frs X.stack → H' b = none := fun b hb => by
    obtain ⟨_, o, ho, _⟩ := I.stack.mem hb
    exact un.free b o ho (I.stkFree b hb) (by intro z; cases z)
  refine I.call' (ch := []) (s' := { s' with heap := h' }) os ⟨fun b o hb hn hf ox => ?_, fun b o hb hn hf ox => ?_, fun b o hb hn ox => ?_, fun b o hb ox => ?_, fun b xs hb => ?_, fun b o u hb => ?_, fun b ps hb => ?_⟩ (fun c o hc' => ?_) bare (fun b hb => by cases hb)
  · exact kp.keep b o (un.keep b o hb hn hf ox) hf (nx b o hb)
  · obtain ⟨sl, q⟩ := un.slot b o hb hn hf ox
    obtain ⟨sl2, q2⟩ := kp.slot b _ q (nx b o hb)
    exact ⟨sl2, q2⟩
  · rw [upd_ne (fun z => nx b o hb (by simp [z]))]; exact un.free b o hb hn ox
  · obtain ⟨o', q⟩ := un.there b o hb ox
    exact kp.there b o' q
  · have := un.tups b xs hb
    rw [upd_ne (nea b _ this)]; exact this
  · have := un.frzs b o u hb
    rw [upd_ne (nea b _ this)]; exact this
  · obtain ⟨more, this⟩ := un.tbls b ps hb
    exact ⟨more, by rw [upd_ne (nea b _ this)]; exact this⟩
  · by_cases hca : c = a
    · subst hca
      rw [upd_same] at hc'
      cases hc'
      exact ⟨⟨oe, vs, he, hc, hd⟩, ⟨oe, he⟩, fun h1 h2 ⟨o, vs, q1, q2, q3⟩ k => ⟨o, vs, k o q1, q2, q3⟩⟩
    · rw [upd_ne hca] at hc'
      refine (hok c o hc').stay (fun d v hd' q => ?_) (fun b q => by rw [upd_ne (nea b _ q)]; exact q) fun b xs q => by rw [upd_ne (nea b _ q)]; exact q
      have hdn : ∃ u, H' d = some u := by
        rcases hd' with z | z
        · rw [z]; exact ⟨_, hc'⟩
        · exact ⟨_, z⟩
      obtain ⟨u, hu⟩ := hdn
      refine kp.keep d v q (fun hm => ?_) (fun hm => ?_)
      · rw [frn d hm] at hu; cases hu
      · simp only [List.mem_cons, List.not_mem_nil, or_false] at hm
        rcases hm with rfl | rfl
        · rw [ha] at hu; cases hu
        · rw [hT] at hu; cases hu
theorem Inv.blank {X : Cx} {pins : List (Addr × Obj)} {σ : St} {H : Hp} {s : Shared} {h' : Heap} {m' : Str → Option Value} {tk : Nat} (I : Inv X pins σ H s) (hn : h'.Ns X.env.locals m') (hs : Heap.SameBut X.env.locals s.heap h') : Inv X pins (List.replicate X.N.length none) H { s with heap := h', toks := tk } := by
  have offL : ∀ b o, X.s₀.heap.get? b = some o → b ≠ X.env.locals := fun b o e => Nat.ne_of_lt (Nat.lt_of_lt_of_le (Heap.lt_size e) I.ok.above)
  refine ⟨I.ok, I.os, I.bare, ⟨fun b o e n hb nx => ?_, fun b o e n hb nx => ?_, I.base.free, fun b o e nx => ?_, I.base.tups, I.base.frzs, I.base.tbls⟩, ⟨m', hn, fun i x v k1 e2 e3 => ?_⟩, fun x c e => ?_, I.free, I.freeC, fun p hp => ?_, fun b ob e => ?_, by simp⟩
  · exact (hs.2 b (offL b o e)).trans (I.base.keep b o e n hb nx)
  · obtain ⟨sl, k1⟩ := I.base.slot b o e n hb nx
    exact ⟨sl, (hs.2 b (offL b o e)).trans k1⟩
  · obtain ⟨o', k1⟩ := I.base.there b o e nx
    exact ⟨o', (hs.2 b (offL b o e)).trans k1⟩
  · rw [List.getElem?_replicate] at e2
    split at e2 <;> cases e2
  · obtain ⟨v, o, ho, hd⟩ := I.cell x c e
    exact ⟨v, o, (hs.2 c (I.cne x c e)).trans ho, hd⟩
  · obtain ⟨q1, q2, q3, q4, q5⟩ := I.pin p hp
    exact ⟨(hs.2 _ q3).trans q1, q2, q3, q4, q5⟩
  · refine (I.hok b ob e).stay (fun c w' hc q => (hs.2 c ?_).trans q) (fun _ q => q) fun _ _ q => q
    rintro rfl
    rcases hc with rfl | hc
    · rw [I.free] at e; cases e
    · rw [I.free] at hc; cases hc
end L2

set_option maxHeartbeats 4000000
namespace L2
open PySem PySem.Spec PyProof.Rows Ex
section
variable {X : Cx} {E : XK}
def tTry (E : XK) (tb : St → TS) (th : TS) (i : Nat) : TS := fun D σ H => tb σ D σ H ∧ ∀ a cls H', E cls none H' → H' a = none → th { nx := fun _ _ => False, rt := D.rt } (σ.set i (some (.ref a))) (upd H' a (ExcO a cls))
theorem ps_try {st b₀ : Stmt} {suite : List Stmt} {cx n : Str} {C D : Addr} {i : Nat} {np hpos pos : Pos} {tb : St → TS} {th : TS} {bm bm' : List Value} (hst : X.stack = X.env :: X.outer ∧ X.env.frame = some X.env.locals) (hN : X.N.Nodup) (hi : X.N[i]? = some n) (hloc : X.env.scope.names.lookup n = some .local)
    (hg : Gl X cx) (hm : X.mg cx = some (.ref D)) (hC : ExcAt X.K C bm) (hD : ExcAt X.K D bm') (hsub : (Value.ref C :: bm).contains (.ref D) = true) (hE : ∀ cls H', E cls none H' → cls = .ref C)
    (hb : ∀ pins σ, PSs (Xt X pins σ E) [st] (tb σ)) (hh : ∀ a, PSs (Xh X a) (b₀ :: suite) th) (hdb : (cx == ("__debug__" : Str)) = false := by decide) :
    PS X (.Try [st] [.ExceptHandler (some (.Name cx np)) (some n) (b₀ :: suite) hpos] [] [] pos) (tTry E tb th i) := by
  intro pins s σ H D' I h
  obtain ⟨h1, h2⟩ := h
  refine wpAny_Try_except (wpAny_mono (hb pins σ [] s σ H D' I.toXt h1) (fun f s1 q => ?_) (fun e s1 q => ?_))
  · cases f with
    | next => obtain ⟨σ', H', I', q⟩ := q; exact wpAny_execs_nil ⟨σ', H', I'.ofXt, q⟩
    | brk => obtain ⟨σ', H', I', q⟩ := q; exact ⟨σ', H', I'.ofXt, q⟩
    | cont => obtain ⟨σ', H', I', q⟩ := q; exact ⟨σ', H', I'.ofXt, q⟩
    | ret u => obtain ⟨v, σ', H', I', r, q⟩ := q; exact ⟨v, σ', H', I'.ofXt, r, q⟩
  obtain ⟨H1, s0, I0, a, T, cls, H', rfl, os, bare, un, nsOk, tr, na, nT, ha, hT, q⟩ := q
  obtain rfl := hE cls H' q
  have I1 : Inv X pins σ H' s1 := I0.call' (ch := []) os un nsOk bare (fun b hb => by cases hb)
  have hcls : X.env.kindOf n = some .local := hloc
  refine note_next (base := X.base) (outer := X.outer) (by rw [I.ok.frames, hst.1]) (by rw [← hst.1]; exact I1.stack) hst.2 tr fun h' T' nT' tr' kp => ?_
  have kp' : Kp (frs X.stack) [a, T] s1.heap h' := by rw [hst.1]; exact kp
  have I2 : Inv X pins σ (upd H' a (ExcO a (.ref C))) { s1 with heap := h' } := I0.landed os bare un nsOk kp' na nT ha hT tr'
  obtain ⟨_, _, _, _, _, _, _, _, _, _, _, _, _, _, _, lC, _, _⟩ := hC.ex
  obtain ⟨_, _, _, _, _, _, _, _, _, _, _, _, _, _, _, lD, _, _⟩ := hD.ex
  have TD := PySem.W.tail_of_in I2.kIn hD.tail
  obtain ⟨oe, vs, oT, ts, he, ⟨hc, _⟩, _⟩ := id tr'
  refine wpAny_handleBy_cons (codeAny_handlers_test (ld_glob (X := Xh X a) (I2.toXh (a := a)) hg hm ?_ hdb)) (by intro q; cases q)
  refine excMatches_base (I2.kIn _ _ lC) (I2.kIn _ _ lD) he hc (TD.hasType PySem.F.excBase_ValueError.hasBase) hsub ?_
  refine codeAny_handlers_suite_as ?_
  refine flight (s := { s1 with heap := h' }) tr' fun h3 tr3 same => ?_
  have kp3 : Kp (frs X.stack) [a, T] s1.heap h3 := by
    have ne : ∀ b o, s1.heap.get? b = some o → b ≠ T' := fun b o hb z => by rw [z, nT'] at hb; cases hb
    exact ⟨fun b o hb hf hx => (same b (ne b o hb)).trans (kp'.keep b o hb hf hx), fun b o hb hx => let ⟨slo, e⟩ := kp'.slot b o hb hx; ⟨slo, (same b (ne b o hb)).trans e⟩, fun b o hb => let ⟨o', e⟩ := kp'.there b o hb; ⟨o', (same b (ne b o hb)).trans e⟩⟩
  have I3 : Inv X pins σ (upd H' a (ExcO a (.ref C))) { s1 with heap := h3 } := I0.landed os bare un nsOk kp3 na nT ha hT tr3
  refine store_ok (X := Xh X a) (v := .ref a) (I3.toXh (a := a)) hN hi (.inl hloc) rfl (fun s4 I4 => ?_) (.inr hloc)
  refine wpAny_mono (hh a pins s4 _ _ _ I4 (h2 a _ H' q ha)) (fun f s5 q5 => ?_) (fun x s5 z => z.elim)
  cases f with
  | next => obtain ⟨_, _, _, z⟩ := q5; exact z.elim
  | brk => obtain ⟨_, _, _, z⟩ := q5; exact z.elim
  | cont => obtain ⟨_, _, _, z⟩ := q5; exact z.elim
  | ret u =>
    obtain ⟨v, σ', H5, I5, r, q6⟩ := q5
    obtain ⟨m, hn, _⟩ := id I5.loc
    refine wpAny_nameGoes hcls hn (by rw [I.ok.kind]; rfl) fun h6 m6 hn6 hs6 => ?_
    exact ⟨v, _, H5, (I5.ofXh I.ok).blank hn6 hs6, r, q6⟩
end
end L2

set_option maxHeartbeats 4000000
namespace PySem.W
open PySem PySem.Spec PySem.Calls PyProof.Rows
structure ExcG (K : Frag) (D : Addr) : Prop where
  ga : findIn K (.ref D) "__getattribute__" = some (some (.builtin "BaseException.__getattribute__"))
  gt : findIn K (.ref D) "__getattr__" = some none
  ff : findObj K D none "__class__" = some (.bind (.builtin "getset_descriptor.__get__") (.builtin "object.__class__"))
  ob : mroIn K D (.type "object") = some true
  be : kitCls K (.ref D) (.type "BaseException") = some true
  me : kitCls K (.ref D) (.ref D) = some true
  dc : hasDictIn K D = true
section
variable {prog : Program} {w : World} {A : Around} {E : Value → Shared → Prop} {K : Frag} {x D : Addr} {ox : Obj}
theorem exc_told {tk : Tok} {s : Shared} {Q : Fin → Shared → Prop} (g : ExcG K D) (X : K.In s.heap) (I : InstAt s.heap x ox D none) (q : Q (.done (.ret (.ref D))) s) :
    wpAny (model prog w) A (Builtin.«object.__getattribute__» ⟨[.ref x, .str "__class__" tk], []⟩) Q E s := by
  have L0 := I.type (M := model prog w)
  have L1 := looks_find (M := model prog w) X I g.ff
  unfold Builtin.«object.__getattribute__»
  refine wpAny_bind (wpAny_pure (wpAny_bind (wpAny_pure (wpAny_bind (L0.at (wpAny_bind (L1.at ?_)))))))
  show wpAny _ _ (Builtin.ObjectAttr.bindTo _ _ _ _) _ _ _
  unfold Builtin.ObjectAttr.bindTo
  show wpAny _ _ (holding [Value.builtin "object.__class__"] (call (Value.builtin "getset_descriptor.__get__") [Value.builtin "object.__class__", Value.ref x, Value.ref D]) >>= ret) _ _ _
  exact wpAny_bind (wpAny_holding (wpAny_call (class_get (ox := ox) (od := none) X I g.ob (wpAny_pure q))))
theorem exc_class {s : Shared} {Q : Option Value → Shared → Prop} (g : ExcG K D) (X : K.In s.heap) (I : InstAt s.heap x ox D none) (q : Q (some (.ref D)) { s with toks := s.toks + 1 }) : wpAny (model prog w) A (getAttr? (.ref x) "__class__") Q E s := by
  have L0 := I.type (M := model prog w)
  have L1 := looks_findIn (M := model prog w) X g.ga
  have L2 := looks_findIn (M := model prog w) X g.gt
  have L3 := (kit_cls (M := model prog w) X g.be).2.2
  have fb := PySem.F.attr_ValueError.ga.bind (.ref x)
  unfold getAttr? getAttrBy? getAttrBy
  refine wpAny_bind (wpAny_mkText (wpAny_bind (wpAny_attempt (wpAny_holding (wpAny_bind (L0.at (wpAny_bind (L1.at ?_))))))))
  show wpAny _ _ (getAttrByItsOwn _ _ _ _ _ _) _ _ _
  unfold getAttrByItsOwn
  refine wpAny_bind (L2.at (wpAny_bind (wpAny_attempt (wpAny_holding ?_))))
  show wpAny _ _ (boundAndCalled _ _ _) _ _ _
  unfold boundAndCalled
  rw [fb]
  refine wpAny_bind (wpAny_pure (wpAny_call (codeAny_call_builtin PySem.F.attr_ValueError.ga.plain F.entry_bexc_ga ?_)))
  have hk : builtinKind "BaseException.__getattribute__" = some .slot := by decide +kernel
  have hsplit : splitId "BaseException.__getattribute__" = some ("BaseException", "__getattribute__") := by decide +kernel
  have ha := F.args_bexc_ga (.ref x) (.str "__class__" s.toks)
  simp only [checkBuiltinCall, hk, hsplit]
  refine wpAny_bind (wpAny_bind (L0.at (L3.at ?_)))
  refine wpAny_of_eq (a := ()) ha ?_
  exact exc_told (s := { s with toks := s.toks + 1 }) g X I (handed_on rfl (wpAny_pure q))
theorem kitx_excG (g : ExcG K D) : KitX K (.ref x) (.ref D) (fun h => ∃ ox, InstAt h x ox D none) where
  ty := fun _ _ _ p => p.elim fun _ I => I.type
  it := fun _ _ X _ => (kit_cls X g.me).2.1
  ne := fun h tp dd its n sl X htp => by
    refine Bool.eq_false_iff.mpr fun q => ?_
    obtain rfl : D = tp := Value.ref.inj (beq_iff_eq.mp q)
    obtain ⟨cd, hc, _⟩ := any_some g.dc
    unfold clsIn at hc
    split at hc
    · rename_i c' d' cd' sl' ho
      cases (X _ _ ho).symm.trans htp
    · cases hc
  ca := fun X p k => p.elim fun _ I => exc_class g X I k
end
end PySem.W
namespace L2
open PySem PySem.Spec PyProof.Rows
def clV : V → Option Value
  | .ty T => some (.type T)
  | .ref D => some (.ref D)
  | _ => none
section
variable {X : Cx}
theorem call_isinstE : CallR X (.builtin "isinstance") (fun xs H Q => ∃ a C c cv b, xs = [.ref a, c] ∧ H a = some (ExcO a (.ref C)) ∧ PySem.W.ExcG X.K C ∧ clV c = some cv ∧ PySem.W.kitOne X.K (.ref C) cv = some b ∧ Q (.bl b) H) := by
  intro pins s σ H xs us Q I r h
  obtain ⟨a, C, c, cv, b, rfl, hH, kx, hc, e, q⟩ := h
  obtain ⟨u, v, rfl, ru, rv⟩ := r.two
  cases ru
  have hv : v = cv := by
    cases c <;> first | (cases hc; cases rv; rfl) | cases hc
  subst hv
  obtain ⟨⟨o, vs, q1, ⟨q2, q3⟩, q4⟩, _, _⟩ := (show ObjOk X.prog X.w H s.heap a (ExcO a (.ref C)) from I.hok a _ hH)
  refine PySem.W.kia_one (PySem.W.kitx_excG kx) I.kIn ⟨o, q1, q2, ?_, ?_⟩ e (fun z => nomatch z) fun tk => ⟨.bl b, H, I.tok tk, rfl, q⟩
  · unfold PySem.W.notCls; rw [q4]
  · rw [q3]; trivial
end
end L2

/-! isinstance of a caught exception, by a tuple of classes -/
namespace L2
open PySem PySem.Spec PyProof.Rows
theorem refs_of : ∀ {cs : List Addr} {its : List Value}, Vals (cs.map V.ref) its → its = cs.map Value.ref
  | [], _, .nil => rfl
  | c :: r, _, .cons h hs => by
    cases h
    rw [refs_of hs]
    rfl
section
variable {X : Cx}
theorem call_isinstET : CallR X (.builtin "isinstance") (fun xs H Q => ∃ (a C p : Addr) (cs : List Addr) (b : Bool), xs = [.ref a, .ref p] ∧ H a = some (ExcO a (.ref C)) ∧ PySem.W.ExcG X.K C ∧ SqT X.K H p (cs.map V.ref) ∧ PySem.W.kitAny X.K (.ref C) (cs.map Value.ref) = some b ∧ Q (.bl b) H) := by
  intro pins s σ H xs us Q I r h
  obtain ⟨a, C, p, cs, b, rfl, hH, kx, hp, e, q⟩ := h
  obtain ⟨u, v, rfl, ru, rv⟩ := r.two
  cases ru
  cases rv
  obtain ⟨its, rr, ⟨o', e', hc, n, hd⟩, _⟩ := I.tuple hp
  have := refs_of rr
  subst this
  obtain ⟨c, dd, dt, sl⟩ := o'
  replace hc : c = .type "tuple" := hc
  replace hd : dt = .seq (cs.map Value.ref).toArray n := hd
  subst hc hd
  obtain ⟨⟨o, vs, q1, ⟨q2, q3⟩, q4⟩, _, _⟩ := (show ObjOk X.prog X.w H s.heap a (ExcO a (.ref C)) from I.hok a _ hH)
  refine PySem.W.kia_tup (PySem.W.kitx_excG kx) I.kIn ⟨o, q1, q2, ?_, ?_⟩ e' e (fun z => nomatch z) fun tk => ⟨.bl b, H, I.tok tk, rfl, q⟩
  · unfold PySem.W.notCls; rw [q4]
  · rw [q3]; trivial
theorem call_isinstETH {e : Addr} : CallR (Xh X e) (.builtin "isinstance") (fun xs H Q => ∃ (a C p : Addr) (cs : List Addr) (b : Bool), xs = [.ref a, .ref p] ∧ H a = some (ExcO a (.ref C)) ∧ PySem.W.ExcG X.K C ∧ SqT X.K H p (cs.map V.ref) ∧ PySem.W.kitAny X.K (.ref C) (cs.map Value.ref) = some b ∧ Q (.bl b) H) := call_isinstET
end
end L2

set_option maxHeartbeats 4000000
namespace L2
open PySem PySem.Spec PyProof.Rows Ex
section
variable {X : Cx}
theorem pe_own {x : Str} {C : Addr} {pos : Pos} (hg : Gl X x) (hm : X.mg x = some (.ref C)) (hd : (x == ("__debug__" : Str)) = false := by decide) : PE X (.Name x pos) (tC (.ref C)) :=
  fun _ _ _ H _ I h => ld_glob I hg hm ⟨.ref C, H, I, rfl, h⟩ hd
end
/-! ### calls of defs that may raise -/
structure CalX (P : Program) (w : World) (K : PySem.W.Frag) (mg : Str → Option Value) (base : Heap) (k : Nat) (x : Str) (ps : List Str) (sp : Sp) : Prop where
  ex : ∃ f fd, FnOk P w K mg base (CX1 P w) k f fd ps sp ∧ Binds K fd ps [] ∧ PySem.W.keepIn K (.ref f) = true ∧ mg x = some (.ref f)
theorem CalX.mono {P : Program} {w : World} {K : PySem.W.Frag} {mg : Str → Option Value} {base : Heap} {j k : Nat} {x : Str} {ps : List Str} {sp : Sp} (c : CalX P w K mg base j x ps sp) (h : j ≤ k) : CalX P w K mg base k x ps sp :=
  let ⟨f, fd, F, b, kp, m⟩ := c.ex
  ⟨f, fd, F.mono h, b, kp, m⟩
section
variable {X : Cx} {k : Nat} {x : Str} {ps : List Str} {sp : Sp} {p pos : Pos} {e : Expr} {es : List Expr} {t : TA} {E : XK}
theorem pe_calX (c : CalX X.prog X.w X.K X.mg X.base k x ps sp) (hx : Passes (CX1 X.prog X.w) X E) (hr : Room k X.A) (hg : Gl X x) (ha : PA X (e :: es) t) (hdb : (x == ("__debug__" : Str)) = false := by decide)
    (he : starEach (e :: es) X.env = (false, eval e X.env) :: starEach es X.env := by rfl) (hpl : (backTo pos (starEach es X.env)).any (·.1) = false := by rfl) : PE X (.Call (.Name x p) (e :: es) [] pos) (tCall sp [] E t) := by
  obtain ⟨f, fd, F, b, kp, m⟩ := c.ex
  exact pe_call F hr hg m kp b .nil hx ha hdb he hpl
def tCallT (σ0 : St) (sp : Sp) (E : XK) (t : TA) : TE := fun σ H Q => t σ H fun vs H1 => σ = σ0 ∧ sp vs H1 Q E
theorem pe_calT {pins : List (Addr × Obj)} {σ0 : St} (c : CalX X.prog X.w X.K X.mg X.base k x ps sp) (hr : Room k X.A) (hg : Gl X x) (ha : PA (Xt X pins σ0 E) (e :: es) t) (hdb : (x == ("__debug__" : Str)) = false := by decide)
    (he : starEach (e :: es) X.env = (false, eval e X.env) :: starEach es X.env := by rfl) (hpl : (backTo pos (starEach es X.env)).any (·.1) = false := by rfl) : PE (Xt X pins σ0 E) (.Call (.Name x p) (e :: es) [] pos) (tCallT σ0 sp E t) := by
  obtain ⟨f, fd, F, b, kp, m⟩ := c.ex
  intro p2 s σ H Q I h
  refine wpAny_Call_Name_kw (ld_glob I hg m ?_ hdb)
  refine PySem.W.callWith_K (h₀ := X.base) I.ok.mod.kin kp (thn (ha pos p2 s σ H _ I h) fun us s1 ⟨vs, H1, I1, r, e1, q⟩ => ⟨I1.kIn, ?_⟩) he hpl
  subst e1
  have hl : us.length = ps.length := by rw [← r.length]; exact F.len _ _ _ _ q
  have b2 := b s1 us I1.kIn (by rw [List.append_nil]; exact hl)
  rw [List.append_nil] at b2
  refine wpAny_call (codeAny_mono (F.run X.A X.stack s1 H1 ⟨us, []⟩ us vs Q E hr I1.env0 b2 r q) fun r s' hq => ?_)
  cases r with
  | error e => exact ⟨H1, s1, I1.ofXt, hq⟩
  | ok fl =>
    cases fl with
    | ret u => exact I1.after hq
    | next => exact False.elim hq
    | brk => exact False.elim hq
    | cont => exact False.elim hq
end
section
variable {P : Program} {w : World} {K : PySem.W.Frag} {mg : Str → Option Value} {base : Heap}
theorem FunAt.calX {x : Str} {st : Stmt} {dV : Value} {N ps : List Str} {k : Nat} {sp : Sp} (F : FunAt K x st dV) {h : Heap} (X : K.In h) (G : h.Ns mainGlobals mg) (S : FnScope N ps (defScope st)) (bi : BindsAll K x st dV ps) (len : ∀ vs H Q E, sp vs H Q E → vs.length = ps.length)
    (hbody : ∀ (f : Addr) (cdv : Value) (A : Around) (outer : List Env) (s : Shared) (H : Hp) (vs : List V) (Q : VK) (E : XK), Room k (A.deeper (envOfC x (defScope st) s.heap.objs.size f cdv)) → sp vs H Q E →
      ∃ t, PSs (cxOf (CX1 P w) P w K mg base N x (defScope st) f cdv A outer s H E) (defBody st) t ∧ t { nx := fun _ H' => Q .non H', rt := Q } (start N vs) H) : CalX P w K mg base (k + 1) x ps sp := by
  obtain ⟨f, oc, od, kV, doc, pm, an, cdv, ct, osl, lk, hcd, kp, ns⟩ := F.ex
  exact ⟨f, _, fn_of lk hcd S len fun A outer s H vs Q E hr hsp => hbody f cdv A outer s H vs Q E hr hsp, bi kV doc pm an cdv ct, kp, PySem.W.mg_of X G ns⟩
end
end L2

set_option maxHeartbeats 4000000
/-! a def called behind an except: an exception is being handled meanwhile -/
namespace L2
open PySem PySem.Spec PyProof.Rows Ex
section
variable {X : Cx} {k : Nat} {x : Str} {ps : List Str} {sp : Sp} {p pos : Pos} {e : Expr} {es : List Expr} {t : TA} {E : XK}
end
end L2

set_option maxHeartbeats 4000000
namespace L2
open PySem PySem.Spec PyProof.Rows
theorem call_isinstEH {X : Cx} {e : Addr} : CallR (Xh X e) (.builtin "isinstance") (fun xs H Q => ∃ a C c cv b, xs = [.ref a, c] ∧ H a = some (ExcO a (.ref C)) ∧ PySem.W.ExcG X.K C ∧ clV c = some cv ∧ PySem.W.kitOne X.K (.ref C) cv = some b ∧ Q (.bl b) H) := call_isinstE
theorem ix_tupT {X : Cx} {pins : List (Addr × Obj)} {σ : St} {E : XK} : IxR (Xt X pins σ E) (rIxT X.K) := ix_tup
end L2
namespace K25
open PySem PySem.Spec PyProof.Rows L2 Am Pc Ba K14 K15n Hw
open Pt hiding kit_tt
theorem boot_VE : bootBuiltins "ValueError" = some (.type "ValueError") := by decide +kernel
structure Exs (K : PySem.W.Frag) (mg : Str → Option Value) (C D : Addr) (bm bm' : List Value) where
  mC : mg "NoBoard" = some (.ref C)
  mD : mg "BoardError" = some (.ref D)
  mV : mg "ValueError" = none
  xC : ExcAt K C bm
  xD : ExcAt K D bm'
  sub : (Value.ref C :: bm).contains (.ref D) = true
  kC : PySem.W.ExcG K C
  own : PySem.W.kitOne K (.ref C) (.ref C) = some true
  ve : PySem.W.kitOne K (.ref C) (.type "ValueError") = some true
  a_NeverSo : Addr
  mo_NeverSo : mg "NeverSo" = some (.ref a_NeverSo)
  a_NoAmount : Addr
  mo_NoAmount : mg "NoAmount" = some (.ref a_NoAmount)
  a_NoMark : Addr
  mo_NoMark : mg "NoMark" = some (.ref a_NoMark)
  a_NoCell : Addr
  mo_NoCell : mg "NoCell" = some (.ref a_NoCell)
  a_NoMove : Addr
  mo_NoMove : mg "NoMove" = some (.ref a_NoMove)
  a_NoShare : Addr
  mo_NoShare : mg "NoShare" = some (.ref a_NoShare)
  a_NoTable : Addr
  mo_NoTable : mg "NoTable" = some (.ref a_NoTable)
  a_NoText : Addr
  mo_NoText : mg "NoText" = some (.ref a_NoText)
  a_NotBorne : Addr
  mo_NotBorne : mg "NotBorne" = some (.ref a_NotBorne)
  a_Unguarded : Addr
  mo_Unguarded : mg "Unguarded" = some (.ref a_Unguarded)
  k1 : PySem.W.kitAny K (.ref C) [.ref a_NeverSo, .ref a_NoAmount, .ref a_NoMark, .ref a_NoCell, .ref a_NoMove, .ref a_NoShare, .ref a_NoTable] = some false
  k2 : PySem.W.kitAny K (.ref C) [.ref a_NoText, .ref a_NotBorne, .ref a_Unguarded] = some false
theorem s1l : (1 : Nat) ≤ sizeLine := by decide
abbrev LEN : List V := [2, 4, 8, 16, 32, 64].map V.int
theorem in_len {c : Nat} (h1 : 1 ≤ c) (h6 : c ≤ 6) : inV (.int ((2 ^ c : Nat) : Int)) LEN = true := by
  rcases (show c = 1 ∨ c = 2 ∨ c = 3 ∨ c = 4 ∨ c = 5 ∨ c = 6 by omega) with rfl | rfl | rfl | rfl | rfl | rfl <;> decide
theorem pr_get {α β : Type} {F : α → β → Prop} : ∀ {l : List α} {r : List β} {i : Nat} {x : α}, Paired F l r → l[i]? = some x → ∃ y, r[i]? = some y ∧ F x y
  | _, _, _, _, .nil, h => by simp at h
  | _, _, 0, _, .cons e _, h => ⟨_, rfl, by simp at h; subst h; exact e⟩
  | _, _, i + 1, _, .cons _ r, h => by
    simp at h
    obtain ⟨y, hy, f⟩ := pr_get r h
    exact ⟨y, by simpa using hy, f⟩
theorem pr_len {α β : Type} {F : α → β → Prop} : ∀ {l : List α} {r : List β}, Paired F l r → l.length = r.length
  | _, _, .nil => rfl
  | _, _, .cons _ r => by simp [pr_len r]
theorem pr_app {α β : Type} {F : α → β → Prop} : ∀ {l l' : List α} {r r' : List β}, Paired F l r → Paired F l' r' → Paired F (l ++ l') (r ++ r')
  | _, _, _, _, .nil, b => b
  | _, _, _, _, .cons x r, b => .cons x (pr_app r b)
theorem pr_ok {K : PySem.W.Frag} {H : Hp} : ∀ {ps : List Addr}, (∀ p ∈ ps, Tel K H (.ref p) true) → Paired (Tel K H) (ps.map V.ref) (ps.map fun _ => true)
  | [], _ => .nil
  | p :: ps, h => .cons (h p (.head _)) (pr_ok fun q hq => h q (.tail _ hq))
theorem all_ok (ps : List Addr) : (ps.map fun _ => true).all id = true := by induction ps with | nil => rfl | cons p ps ih => exact ih
theorem lc_isamt {K : PySem.W.Frag} {l : Addr} {xs : List V} {bs : List Bool} {fr : L2.St} {H1 : Hp} {acc : Addr} {Q : VK} (hl : H1 l = some (.lst xs)) (l64 : xs.length ≤ 64) (pr : Paired (Tel K H1) xs bs) (hacc : H1 acc = none)
    (hd : ∀ H2, Same H1 H2 → H2 acc = some (.lst (bs.map V.bl)) → Q (.ref acc) H2) : LcW (Itl K l) (gName 0) (tCall (spIsAmt K) [] E0 (tCons (tVar 0) tNil)) (none :: fr) H1 acc Q := by
  have len := pr_len pr
  refine lc_list (K := K) (a := l) (xs := xs) (fr := fr) (fun i ys H' => Same H1 H' ∧ H' acc = some (.lst ys) ∧ ys = (bs.take i).map V.bl) (t64 l64) ⟨same_new hacc _, upd_same, rfl⟩ (fun i ys H' e => SqL.of (e.1 _ _ hl)) ?_ ?_
  · rintro i x ys H2 N hx hy ⟨S2, a2, rfl⟩ kN
    obtain ⟨b, hb, tl⟩ := pr_get pr hx
    refine ⟨_, rfl, _, _, rfl, tl.same S2, fun H3 s3 => kN _ _ (s3 _ _ a2) ⟨same_upd (S2.trans s3) hacc, upd_same, ?_⟩⟩
    rw [List.take_add_one, hb, Option.toList_some, List.map_append]
    rfl
  · rintro ys H2 hy ⟨S2, a2, rfl⟩
    rw [len, List.take_length] at a2
    exact hd H2 S2 a2
theorem lc_zero {K : PySem.W.Frag} {l aZ : Addr} {ps : List Addr} {f : Nat → A5} {fr : L2.St} {H1 : Hp} {acc : Addr} {Q : VK} (kZ : ∀ H, SqT K H aZ ([0, 0, 0, 0, 0].map V.int)) (hl : H1 l = some (.lst (ps.map V.ref))) (l64 : ps.length ≤ 64) (v : Vals5 H1 ps f) (hacc : H1 acc = none)
    (hd : ∀ H2 bs, Same H1 H2 → H2 acc = some (.lst (bs.map V.bl)) → Asked f ps.length bs → Q (.ref acc) H2) : LcW (Itl K l) (gName 0) (tOp (rEqTI K false) (tVar 0) (tC (.ref aZ))) (none :: fr) H1 acc Q := by
  refine lc_list (K := K) (a := l) (xs := ps.map V.ref) (fr := fr) (fun i ys H' => Same H1 H' ∧ H' acc = some (.lst ys) ∧ ∃ bs : List Bool, ys = bs.map V.bl ∧ Asked f i bs) (by rw [List.length_map]; exact t64 l64) ⟨same_new hacc _, upd_same, [], rfl, .nil⟩ (fun i ys H' e => SqL.of (e.1 _ _ hl)) ?_ ?_
  · rintro i x ys H2 N hx hy ⟨S2, a2, bs, rfl, as⟩ kN
    rw [List.getElem?_map] at hx
    obtain ⟨p, hp, rfl⟩ := Option.map_eq_some_iff.mp hx
    refine ⟨_, rfl, p, aZ, l5 (f i), [0, 0, 0, 0, 0], rfl, rfl, SqT.of (S2 _ _ (v i p hp)), kZ _, kN _ _ a2 ⟨same_upd S2 hacc, upd_same, bs ++ [decide (l5 (f i) = [0, 0, 0, 0, 0])], ?_, as.snoc⟩⟩
    rw [List.map_append]
    rfl
  · rintro ys H2 hy ⟨S2, a2, bs, rfl, as⟩
    rw [List.length_map] at as
    exact hd H2 bs S2 a2 as
theorem Asked.all {f : Nat → A5} {n : Nat} {bs : List Bool} (h : Asked f n bs) (z : ∀ i, i < n → f i = ((0, 0, 0, 0), 0)) : bs.all id = true := by
  unfold Asked at h
  subst h
  rw [List.all_eq_true]
  intro x hx
  obtain ⟨j, hj, e⟩ := List.mem_map.mp hx
  rw [← e]
  exact decide_eq_true (l5_0.mpr (z j (List.mem_range.mp hj)))
theorem Asked.some {f : Nat → A5} {c : Nat} {bs : List Bool} (h : Asked f (2 ^ c) bs) (z : Hld f c) : bs.all id = false := by
  obtain ⟨j, hj, nj⟩ := z
  unfold Asked at h
  subst h
  rw [List.all_eq_false]
  refine ⟨_, List.mem_map.mpr ⟨j, List.mem_range.mpr hj, rfl⟩, ?_⟩
  rw [decide_eq_false (fun e => nj (l5_0.mp e))]
  decide
inductive NoBd (K : PySem.W.Frag) (H : Hp) : V → Prop where
  | odd {v : V} {t : Value} (ty : TyOf K H v t) (e : PySem.W.kitOne K t (.type "list") = some false) : NoBd K H v
  | len {l : Addr} {xs : List V} (hl : H l = some (.lst xs)) (n : inV (.int (xs.length : Nat)) LEN = false) : NoBd K H (.ref l)
  | item {l : Addr} {xs : List V} {bs : List Bool} (hl : H l = some (.lst xs)) (l64 : xs.length ≤ 64) (pr : Paired (Tel K H) xs bs) (no : bs.all id = false) : NoBd K H (.ref l)
  | zero {l : Addr} {ps : List Addr} (hl : H l = some (.lst (ps.map V.ref))) (l64 : ps.length ≤ 64) (v : Vals5 H ps (fun _ => ((0, 0, 0, 0), 0))) : NoBd K H (.ref l)
def NoBeg (K : PySem.W.Frag) (H : Hp) (v u : V) : Prop := Part K H v ∧ Part K H u ∧ ((∀ n : Nat, 1 ≤ n → n ≤ 6 → v ≠ .int n) ∨ ∃ n : Nat, 1 ≤ n ∧ n ≤ 6 ∧ v = .int n ∧ okW n u = false)
def spBoardOf : Sp := fun vs H Q _ => ∃ (l : Addr) (ps : List Addr) (f : Nat → A5) (c n m : Nat), vs = [.ref l] ∧ Bd H l ps f c n m ∧ 1 ≤ c ∧ c ≤ 6 ∧ Hld f c ∧ ∀ (r : Addr) (H' : Hp), H r = none → Same H H' → H' r = some (.lst (ps.map V.ref)) → Q (.ref r) H'
def spBoardX (K : PySem.W.Frag) (C : Addr) : Sp := fun vs H _ E => ∃ v, vs = [v] ∧ NoBd K H v ∧ ∀ H', Same H H' → E (.ref C) none H'
def spBegX (K : PySem.W.Frag) (C : Addr) : Sp := fun vs H _ E => ∃ v u, vs = [v, u] ∧ NoBeg K H v u ∧ ∀ H', Same H H' → E (.ref C) none H'
def spRefd (K : PySem.W.Frag) : Sp := fun vs H Q _ => ((∃ v, vs = [.int 0, v] ∧ NoBd K H v) ∨ ∃ (p : Addr) (v u : V), vs = [.int 1, .ref p] ∧ H p = some (.tup [v, u]) ∧ NoBeg K H v u) ∧ ∀ H', Same H H' → Q (.bl true) H'
section
variable {P : Program} {w : World} {K : PySem.W.Frag} {mg : Str → Option Value} {base : Heap} {k : Nat} {h : Heap} {C D : Addr} {bm bm' : List Value}
theorem sc_boardof : FnScope ["amounts"] ["amounts"] (defScope (top 36)) := ⟨rfl, rfl, rfl, by decide +kernel, rfl, by decide +kernel, by decide +kernel⟩
theorem ok_boardof {aL aZ : Addr} (gL : mg "LENGTHS" = some (.ref aL)) (gZ : mg "NOUGHT" = some (.ref aZ)) (kL : ∀ H, SqT K H aL LEN) (kZ : ∀ H, SqT K H aZ ([0, 0, 0, 0, 0].map V.int)) (F : FunAt K "board_of" (top 36) .none) (X : K.In h) (G : h.Ns mainGlobals mg) (B : Bs mg) (c_is_amount : Cal P w K mg base k "is_amount" ["thing"] (spIsAmt K)) : Cal P w K mg base (k + 1) "board_of" ["amounts"] spBoardOf := by
  have nd := sc_boardof.nd
  refine F.cal X G sc_boardof (bnd1 fun _ _ _ _ _ _ _ => rfl) (fun vs H Q E h => ?_) (fun fa cdv A outer s H vs Q E hr h => ?_)
  · obtain ⟨l, ps, f, c, n, m, rfl, _⟩ := h; rfl
  obtain ⟨l, ps, f, c, n, m, rfl, BD, c1, c6, hld, kq⟩ := h
  have p6 := pow6 c6
  have lps : (ps.map V.ref).length = 2 ^ c := by rw [List.length_map, BD.len]
  have il := in_len c1 c6
  refine ⟨_, (@pss_cons _ _ _ _ _ (ps_if (PW.pt (pw_or (pt_not (pt_val (pe_callB call_isinst rfl B.isinstance boot_isinstance (pa_cons (pv 0) (pa_cons (pe_bltn (v := .ty "list") rfl B.list boot_list rfl) pa_nil))))) (pw_or1 (pt_cmpR op_notIn_seq (pe_callB call_len_seq rfl B.len PySem.boot_len (pa_cons (pv 0) pa_nil)) (pe_glob (v := .ref aL) rfl gL rfl) rfl))))
      (@pss_one _ _ _ ps_never)
      pss_nil)
    (@pss_cons _ _ _ _ _ (ps_if (pt_not (pt_val (pe_callB (call_allL rfl) rfl B.all boot_all (pa_cons (pe_lc rfl (LcOk.of (Nc := ["one"]) (mp := [none]) (by kernel_rfl)) (pi_list (pv 0)) (fun _ _ _ _ => (pg_name (i := 0) (show (["one"] : List Str).Nodup by decide +kernel) rfl (Or.inl rfl))) (fun _ _ _ _ => (pe_cal c_is_amount hr rfl (pa_cons (pv 0) pa_nil)))) pa_nil))))
      (@pss_one _ _ _ ps_never)
      pss_nil)
    (@pss_cons _ _ _ _ _ (ps_if (pt_val (pe_callB (call_allL rfl) rfl B.all boot_all (pa_cons (pe_lc rfl (LcOk.of (Nc := ["one"]) (mp := [none]) (by kernel_rfl)) (pi_list (pv 0)) (fun _ _ _ _ => (pg_name (i := 0) (show (["one"] : List Str).Nodup by decide +kernel) rfl (Or.inl rfl))) (fun _ _ _ _ => (pe_cmpR (op_eqTIC hr.units) (pv 0) (pe_glob (v := .ref aZ) rfl gZ rfl) (nomark _)))) pa_nil)))
      (@pss_one _ _ _ ps_never)
      pss_nil)
    (@pss_one _ _ _ (ps_ret (pe_callTy call_list_of rfl B.list boot_list (pa_cons (pv 0) pa_nil))))))), ?_⟩
  try dsimp only [cxK]
  refine ⟨_, rfl, _, _, _, true, rfl, TyOf.lst BD.lst, kit_ll K, _, rfl, iteF ⟨_, rfl, l, _, rfl, .inl (SqL.of BD.lst), aL, LEN, rfl, .inr (kL H), rfl, rfl, ?_⟩⟩
  rw [lps, il]
  refine ⟨_, rfl, iteF ?_⟩
  refine ⟨_, rfl, l, rfl, ⟨_, SqL.of BD.lst⟩, fun acc hacc => lc_isamt (fr := []) BD.lst (by rw [lps]; exact p6) (pr_ok fun p hp => ?_) hacc fun H2 S2 a2 => ?_⟩
  · obtain ⟨i, hi⟩ := List.mem_iff_getElem?.mp hp
    have il : i < 2 ^ c := by rw [← BD.len]; exact (List.getElem?_eq_some_iff.mp hi).1
    exact .yes (BD.vals i p hi) (BD.ok i il).amt
  refine ⟨acc, ps.map fun _ => true, rfl, SqL.of a2, _, rfl, ?_⟩
  rw [all_ok]
  refine iteF ?_
  have BD2 := BD.same S2
  refine ⟨_, rfl, l, rfl, ⟨_, SqL.of BD2.lst⟩, fun ac2 hac2 => lc_zero (fr := []) kZ BD2.lst (by rw [BD.len]; exact p6) BD2.vals hac2 fun H3 bs S3 a3 as => ?_⟩
  rw [BD.len] at as
  refine ⟨ac2, bs, rfl, SqL.of a3, _, rfl, ?_⟩
  rw [as.some hld]
  refine iteF ?_
  have S23 := S2.trans S3
  exact ⟨_, rfl, l, _, rfl, .inl (SqL.of (S23 _ _ BD.lst)), fun r hr => kq r _ (fresh_of S23 hr) (S23.trans (same_new hr _)) upd_same⟩
end
end K25

set_option maxHeartbeats 4000000
namespace K25
open PySem PySem.Spec PyProof.Rows L2 Am Pc Ba K14 K15n Hw
open Pt hiding kit_tt
section
variable {P : Program} {w : World} {K : PySem.W.Frag} {mg : Str → Option Value} {base : Heap} {k : Nat} {h : Heap} {C D : Addr} {bm bm' : List Value}
theorem okx_boardof {aL aZ : Addr} (gL : mg "LENGTHS" = some (.ref aL)) (gZ : mg "NOUGHT" = some (.ref aZ)) (kL : ∀ H, SqT K H aL LEN) (kZ : ∀ H, SqT K H aZ ([0, 0, 0, 0, 0].map V.int)) (F : FunAt K "board_of" (top 36) .none) (X : K.In h) (G : h.Ns mainGlobals mg) (B : Bs mg) (x : Exs K mg C D bm bm') (c_is_amount : Cal P w K mg base k "is_amount" ["thing"] (spIsAmt K)) : CalX P w K mg base (k + 1) "board_of" ["amounts"] (spBoardX K C) := by
  have nd := sc_boardof.nd
  refine F.calX X G sc_boardof (bnd1 fun _ _ _ _ _ _ _ => rfl) (fun vs H Q E h => ?_) (fun fa cdv A outer s H vs Q E hr h => ?_)
  · obtain ⟨v, rfl, _⟩ := h; rfl
  obtain ⟨v, rfl, nb, kx⟩ := h
  refine ⟨_, (@pss_cons _ _ _ _ _ (ps_if (PW.pt (pw_or (pt_not (pt_val (pe_callB call_isinst rfl B.isinstance boot_isinstance (pa_cons (pv 0) (pa_cons (pe_bltn (v := .ty "list") rfl B.list boot_list rfl) pa_nil))))) (pw_or1 (pt_cmpR op_notIn_seq (pe_callB call_len_seq rfl B.len PySem.boot_len (pa_cons (pv 0) pa_nil)) (pe_glob (v := .ref aL) rfl gL rfl) rfl))))
      (@pss_one _ _ _ (ps_raise flies_of rfl rfl x.mC x.xC (pa_cons pe_str pa_nil)))
      pss_nil)
    (@pss_cons _ _ _ _ _ (ps_if (pt_not (pt_val (pe_callB (call_allL rfl) rfl B.all boot_all (pa_cons (pe_lc rfl (LcOk.of (Nc := ["one"]) (mp := [none]) (by kernel_rfl)) (pi_list (pv 0)) (fun _ _ _ _ => (pg_name (i := 0) (show (["one"] : List Str).Nodup by decide +kernel) rfl (Or.inl rfl))) (fun _ _ _ _ => (pe_cal c_is_amount hr rfl (pa_cons (pv 0) pa_nil)))) pa_nil))))
      (@pss_one _ _ _ (ps_raise flies_of rfl rfl x.mC x.xC (pa_cons pe_str pa_nil)))
      pss_nil)
    (@pss_cons _ _ _ _ _ (ps_if (pt_val (pe_callB (call_allL rfl) rfl B.all boot_all (pa_cons (pe_lc rfl (LcOk.of (Nc := ["one"]) (mp := [none]) (by kernel_rfl)) (pi_list (pv 0)) (fun _ _ _ _ => (pg_name (i := 0) (show (["one"] : List Str).Nodup by decide +kernel) rfl (Or.inl rfl))) (fun _ _ _ _ => (pe_cmpR (op_eqTIC hr.units) (pv 0) (pe_glob (v := .ref aZ) rfl gZ rfl) (nomark _)))) pa_nil)))
      (@pss_one _ _ _ (ps_raise flies_of rfl rfl x.mC x.xC (pa_cons pe_str pa_nil)))
      pss_nil)
    (@pss_one _ _ _ (ps_ret (pe_callTy call_list_of rfl B.list boot_list (pa_cons (pv 0) pa_nil))))))), ?_⟩
  try dsimp only [cxK]
  cases nb with
  | odd ty e => exact ⟨_, rfl, _, _, _, false, rfl, ty, e, _, rfl, iteT ⟨s1l, kx H (Same.refl _)⟩⟩
  | @len l xs hl n =>
    refine ⟨_, rfl, _, _, _, true, rfl, TyOf.lst hl, kit_ll K, _, rfl, iteF ⟨_, rfl, l, _, rfl, .inl (SqL.of hl), aL, LEN, rfl, .inr (kL H), rfl, rfl, ?_⟩⟩
    rw [n]
    exact ⟨_, rfl, iteT ⟨s1l, kx H (Same.refl _)⟩⟩
  | @item l xs bs hl l64 pr no =>
    refine ⟨_, rfl, _, _, _, true, rfl, TyOf.lst hl, kit_ll K, _, rfl, iteF ⟨_, rfl, l, _, rfl, .inl (SqL.of hl), aL, LEN, rfl, .inr (kL H), rfl, rfl, ?_⟩⟩
    cases inV (.int (xs.length : Nat)) LEN with
    | false => exact ⟨_, rfl, iteT ⟨s1l, kx H (Same.refl _)⟩⟩
    | true =>
      refine ⟨_, rfl, iteF ⟨_, rfl, l, rfl, ⟨_, SqL.of hl⟩, fun acc hacc => lc_isamt (fr := []) hl l64 pr hacc fun H2 S2 a2 => ?_⟩⟩
      refine ⟨acc, bs, rfl, SqL.of a2, _, rfl, ?_⟩
      rw [no]
      exact iteT ⟨s1l, kx H2 S2⟩
  | @zero l ps hl l64 v =>
    refine ⟨_, rfl, _, _, _, true, rfl, TyOf.lst hl, kit_ll K, _, rfl, iteF ⟨_, rfl, l, _, rfl, .inl (SqL.of hl), aL, LEN, rfl, .inr (kL H), rfl, rfl, ?_⟩⟩
    cases inV (.int ((ps.map V.ref).length : Nat)) LEN with
    | false => exact ⟨_, rfl, iteT ⟨s1l, kx H (Same.refl _)⟩⟩
    | true =>
      refine ⟨_, rfl, iteF ⟨_, rfl, l, rfl, ⟨_, SqL.of hl⟩, fun acc hacc => lc_isamt (fr := []) hl (by rw [List.length_map]; exact l64) (pr_ok fun p hp => ?_) hacc fun H2 S2 a2 => ?_⟩⟩
      · obtain ⟨i, hi⟩ := List.mem_iff_getElem?.mp hp
        exact .yes (v i p hi) ⟨Int.le_refl 0, .inl rfl⟩
      refine ⟨acc, ps.map fun _ => true, rfl, SqL.of a2, _, rfl, ?_⟩
      rw [all_ok]
      refine iteF ⟨_, rfl, l, rfl, ⟨_, SqL.of (S2 _ _ hl)⟩, fun ac2 hac2 => lc_zero (fr := []) kZ (S2 _ _ hl) l64 (v.same S2) hac2 fun H3 bs S3 a3 as => ?_⟩
      refine ⟨ac2, bs, rfl, SqL.of a3, _, rfl, ?_⟩
      rw [as.all fun _ _ => rfl]
      exact iteT ⟨s1l, kx H3 (S2.trans S3)⟩
theorem okx_begin {tM : Tok} (gM : mg "MOST_CELLS" = some (.int 6 tM)) (F : FunAt K "check_beginning" (top 35) .none) (X : K.In h) (G : h.Ns mainGlobals mg) (x : Exs K mg C D bm bm') (c_is_whole : Cal P w K mg base k "is_whole" ["thing"] (spIsWhole K)) (c_is_word : Cal P w K mg base k "is_word" ["thing", "cells"] (spWordP K)) : CalX P w K mg base (k + 1) "check_beginning" ["cells", "word"] (spBegX K C) := by
  have nd := sc_begin.nd
  refine F.calX X G sc_begin (bnd2 fun _ _ _ _ _ _ _ _ => rfl) (fun vs H Q E h => ?_) (fun f cdv A outer s H vs Q E hr h => ?_)
  · obtain ⟨v, u, rfl, _⟩ := h; rfl
  obtain ⟨v, u, rfl, ⟨pv', pu, bad⟩, kx⟩ := h
  refine ⟨_, (@pss_cons _ _ _ _ _ (ps_if (PW.pt (pw_or (pt_not (pt_val (pe_cal c_is_whole hr rfl (pa_cons (pv 0) pa_nil)))) (pw_or (pt_cmpR op_lt (pv 0) pe_int (nomark _)) (pw_or1 (pt_cmpR op_gt (pv 0) (pe_glob (v := .int 6) rfl gM ⟨tM, rfl⟩) (nomark _))))))
      (@pss_one _ _ _ (ps_raise flies_of rfl rfl x.mC x.xC (pa_cons pe_str pa_nil)))
      pss_nil)
    (@pss_one _ _ _ (ps_if (pt_not (pt_val (pe_cal c_is_word hr rfl (pa_cons (pv 1) (pa_cons (pv 0) pa_nil)))))
      (@pss_one _ _ _ (ps_raise flies_of rfl rfl x.mC x.xC (pa_cons pe_str pa_nil)))
      pss_nil))), ?_⟩
  try dsimp only [cxK]
  refine ⟨_, rfl, v, rfl, pv', _, rfl, nblI (fun _ => ⟨s1l, kx H (Same.refl _)⟩) (fun c => ?_)⟩
  cases v with
  | int i =>
    refine ⟨_, rfl, _, _, rfl, rfl, _, rfl, decI (fun _ => ⟨s1l, kx H (Same.refl _)⟩) (fun i1 => ⟨_, rfl, _, _, rfl, rfl, _, rfl, decI (fun _ => ⟨s1l, kx H (Same.refl _)⟩) (fun i6 => ?_)⟩)⟩
    obtain ⟨n, rfl⟩ : ∃ n : Nat, i = n := ⟨i.toNat, by omega⟩
    have wu : okW n u = false := by
      rcases bad with b | ⟨m, _, _, e, b⟩
      · exact absurd rfl (b n (by omega) (by omega))
      · have e := V.int.inj e
        have : n = m := by omega
        rw [this]
        exact b
    refine ⟨_, rfl, _, rfl, u, n, rfl, pu, _, rfl, ?_⟩
    rw [wu]
    exact iteT ⟨s1l, kx H (Same.refl _)⟩
  | _ => cases c
theorem okx_start {dV : Value} (F : FunAt K "start" (top 34) dV) (bi : BindsAll K "start" (top 34) dV ["cells", "word"]) (X : K.In h) (G : h.Ns mainGlobals mg) (c_check_beginning : CalX P w K mg base k "check_beginning" ["cells", "word"] (spBegX K C)) : CalX P w K mg base (k + 1) "start" ["cells", "word"] (spBegX K C) := by
  have nd := sc_start.nd
  refine F.calX X G sc_start bi (fun vs H Q E h => ?_) (fun f cdv A outer s H vs Q E hr h => ?_)
  · obtain ⟨v, u, rfl, _⟩ := h; rfl
  obtain ⟨v, u, rfl, nb, kx⟩ := h
  refine ⟨_, (@pss_cons _ _ _ _ _ (ps_expr (pe_calX c_check_beginning (flies_of.passes fun _ _ z => z) hr rfl (pa_cons (pv 0) (pa_cons (pv 1) pa_nil)))) pss_never), ?_⟩
  try dsimp only [cxK]
  exact ⟨_, rfl, _, rfl, v, u, rfl, nb, kx⟩
theorem sc_refused : FnScope ["_law_way", "_law_thing", "e", "_law_others"] ["_law_way", "_law_thing"] (defScope (top 57)) := ⟨rfl, rfl, rfl, by decide +kernel, rfl, by decide +kernel, by decide +kernel⟩
theorem ok_refused (F : FunAt K "_law_refused" (top 57) .none) (X : K.In h) (G : h.Ns mainGlobals mg) (B : Bs mg) (x : Exs K mg C D bm bm') (c_board_of : CalX P w K mg base k "board_of" ["amounts"] (spBoardX K C)) (c_start : CalX P w K mg base k "start" ["cells", "word"] (spBegX K C)) : Cal P w K mg base (k + 1) "_law_refused" ["_law_way", "_law_thing"] (spRefd K) := by
  have nd := sc_refused.nd
  refine F.cal X G sc_refused (bnd2 fun _ _ _ _ _ _ _ _ => rfl) (fun vs H Q E h => ?_) (fun fa cdv A outer s H vs Q E hr h => ?_)
  · obtain ⟨⟨v, rfl, _⟩ | ⟨p, v, u, rfl, _⟩, _⟩ := h <;> rfl
  obtain ⟨hv, kq⟩ := h
  refine ⟨_, (@pss_cons _ _ _ _ _ (ps_try (E := fun cls _ H' => cls = .ref C ∧ Same H H') (i := 2) ⟨rfl, rfl⟩ nd rfl rfl rfl x.mD x.xC x.xD x.sub (fun _ _ z => z.1)
      (fun pins σ => @pss_one _ _ _ (ps_if (pt_cmpR op_eq (pv 0) pe_int (nomark _)) (@pss_one _ _ _ (ps_expr (pe_calT (σ0 := σ) c_board_of hr rfl (pa_cons (pv 1) pa_nil)))) (@pss_one _ _ _ (ps_expr (pe_calT (σ0 := σ) c_start hr rfl (pa_cons (pe_ix ix_tupT (pv 1) pe_int (fun _ _ => rfl)) (pa_cons (pe_ix ix_tupT (pv 1) pe_int (fun _ _ => rfl)) pa_nil)))))))
      (fun a => @pss_cons _ _ _ _ _ (@ps_set _ _ 3 _ _ _ _ nd rfl (Or.inl rfl) (pe_callB call_isinstETH rfl B.isinstance boot_isinstance (pa_cons (pv 2) (pa_cons (@pe_tup _ _ _ _ _ (pa_cons (pe_own rfl (x.mo_NeverSo)) (pa_cons (pe_own rfl (x.mo_NoAmount)) (pa_cons (pe_own rfl (x.mo_NoMark)) (pa_cons (pe_own rfl (x.mo_NoCell)) (pa_cons (pe_own rfl (x.mo_NoMove)) (pa_cons (pe_own rfl (x.mo_NoShare)) (pa_cons (pe_own rfl (x.mo_NoTable)) pa_nil)))))))) pa_nil))) rfl (.inl rfl))
        (@pss_cons _ _ _ _ _ (ps_if (PW.pt (pw_or (pt_val (pv 3)) (pw_or1 (pt_val (pe_callB call_isinstETH rfl B.isinstance boot_isinstance (pa_cons (pv 2) (pa_cons (@pe_tup _ _ _ _ _ (pa_cons (pe_own rfl (x.mo_NoText)) (pa_cons (pe_own rfl (x.mo_NotBorne)) (pa_cons (pe_own rfl (x.mo_Unguarded)) pa_nil)))) pa_nil)))))))
          (@pss_one _ _ _ (ps_ret pe_bl))
          pss_nil)
        (@pss_one _ _ _ (ps_ret (pe_and (pe_callB call_isinstEH rfl B.isinstance boot_isinstance (pa_cons (pv 2) (pa_cons (pe_own rfl x.mC) pa_nil))) (pe_one (pe_callB call_isinstEH rfl B.isinstance boot_isinstance (pa_cons (pv 2) (pa_cons (pe_bltn (v := .ty "ValueError") rfl x.mV boot_VE rfl) pa_nil))))))))))
    (@pss_one _ _ _ (ps_ret pe_bl))), ?_⟩
  try dsimp only [cxK]
  refine ⟨?_, ?_⟩
  · rcases hv with ⟨v, rfl, nb⟩ | ⟨p, v, u, rfl, hp, nb⟩
    · exact ⟨_, rfl, rfl, _, rfl, eqI (fun _ => ⟨_, rfl, rfl, v, rfl, nb, fun H' S => ⟨rfl, S⟩⟩) (fun z => absurd rfl z)⟩
    · exact ⟨_, rfl, rfl, _, rfl, eqI (fun z => absurd z (by decide)) (fun _ => ⟨_, rfl, p, _, _, _, rfl, rfl, SqT.of hp, rfl, _, rfl, p, _, _, _, rfl, rfl, SqT.of hp, rfl, rfl, v, u, rfl, nb, fun H' S => ⟨rfl, S⟩⟩)⟩
  rintro ea cls H2 ⟨rfl, S2⟩ hea
  have T1 := same_new hea (ExcO ea (.ref C))
  rcases hv with ⟨v, rfl, nb⟩ | ⟨p, v, u, rfl, hp, nb⟩
  · refine ⟨_, rfl, (show 7 ≤ sizeLine by decide), fun t1 f1 => ⟨ea, C, t1, [x.a_NeverSo, x.a_NoAmount, x.a_NoMark, x.a_NoCell, x.a_NoMove, x.a_NoShare, x.a_NoTable], false, rfl, same_new f1 _ _ _ upd_same, x.kC, SqT.of upd_same, x.k1, ?_⟩⟩
    refine ⟨_, rfl, _, rfl, iteF ⟨_, rfl, (show 3 ≤ sizeLine by decide), fun t2 f2 => ⟨ea, C, t2, [x.a_NoText, x.a_NotBorne, x.a_Unguarded], false, rfl, same_new f2 _ _ _ (same_new f1 _ _ _ upd_same), x.kC, SqT.of upd_same, x.k2, _, rfl, iteF ?_⟩⟩⟩
    exact ⟨_, rfl, ea, C, _, _, true, rfl, same_new f2 _ _ _ (same_new f1 _ _ _ upd_same), x.kC, rfl, x.own, _, rfl, iteT ⟨_, rfl, ea, C, _, _, true, rfl, same_new f2 _ _ _ (same_new f1 _ _ _ upd_same), x.kC, rfl, x.ve, kq _ (((S2.trans T1).trans (same_new f1 _)).trans (same_new f2 _))⟩⟩
  · refine ⟨_, rfl, (show 7 ≤ sizeLine by decide), fun t1 f1 => ⟨ea, C, t1, [x.a_NeverSo, x.a_NoAmount, x.a_NoMark, x.a_NoCell, x.a_NoMove, x.a_NoShare, x.a_NoTable], false, rfl, same_new f1 _ _ _ upd_same, x.kC, SqT.of upd_same, x.k1, ?_⟩⟩
    refine ⟨_, rfl, _, rfl, iteF ⟨_, rfl, (show 3 ≤ sizeLine by decide), fun t2 f2 => ⟨ea, C, t2, [x.a_NoText, x.a_NotBorne, x.a_Unguarded], false, rfl, same_new f2 _ _ _ (same_new f1 _ _ _ upd_same), x.kC, SqT.of upd_same, x.k2, _, rfl, iteF ?_⟩⟩⟩
    exact ⟨_, rfl, ea, C, _, _, true, rfl, same_new f2 _ _ _ (same_new f1 _ _ _ upd_same), x.kC, rfl, x.own, _, rfl, iteT ⟨_, rfl, ea, C, _, _, true, rfl, same_new f2 _ _ _ (same_new f1 _ _ _ upd_same), x.kC, rfl, x.ve, kq _ (((S2.trans T1).trans (same_new f1 _)).trans (same_new f2 _))⟩⟩
end
end K25

set_option maxHeartbeats 4000000
namespace K25
open PySem PySem.Spec PyProof.Rows L2 Am Pc Ba K14 K15n Hw
def spDiv : Sp := fun vs H Q _ => ∃ a b : Int, vs = [.int a, .int b] ∧ Q (.int (Int.gcd a b : Nat)) H
def spHeftIs : Sp := fun vs H Q _ => ∃ (p l : Addr) (x y z : Int) (ps : List Addr) (f : Nat → A5) (c n m : Nat), vs = [.ref p, .ref l] ∧ H p = some (T3 x y z) ∧ Bd H l ps f c n m ∧ c ≤ 6 ∧ n ≤ 10000 ∧ m ≤ 1500 ∧ He f (2 ^ c) x y z ∧ Sz 500000 x ∧ Sz 500000 y ∧ Sz 500000 z ∧ ∀ H', Same H H' → Q (.bl true) H'
theorem sz_va {n : Nat} {a M h : Int} (z : Sz n a) (h0 : 0 ≤ h) : Sz (n + M.toNat + 1) (a * p2 (M - h)) := (z.mul (sz_pow (M - h).toNat)).mono (by omega)
theorem sz_n {n : Nat} {x : A5} {M : Int} (z : Sz4 n x.1.1 x.1.2.1 x.1.2.2.1 x.1.2.2.2) (h0 : 0 ≤ x.2) : Sz (2 * (n + M.toNat + 1) + 3) (nTop x M) ∧ Sz (2 * (n + M.toNat + 1) + 3) (nSide x M) := by
  have a := sz_va (M := M) z.z1 h0
  have b := sz_va (M := M) z.z2 h0
  have c := sz_va (M := M) z.z3 h0
  have d := sz_va (M := M) z.z4 h0
  constructor
  · exact ((((a.mul a).add (b.mul b)).add (c.mul c)).add (d.mul d)).mono (by omega)
  · exact ((((a.mul b).add (b.mul c)).add (c.mul d)).sub (d.mul a)).mono (by omega)
theorem sz_s {f : Nat → A5} {n : Nat} {M : Int} : ∀ i : Nat, (∀ w, w < i → Sz4 n (f w).1.1 (f w).1.2.1 (f w).1.2.2.1 (f w).1.2.2.2 ∧ 0 ≤ (f w).2) → Sz (2 * (n + M.toNat + 1) + 3 + i) (sTop f i M) ∧ Sz (2 * (n + M.toNat + 1) + 3 + i) (sSide f i M)
  | 0, _ => ⟨Nat.two_pow_pos _, Nat.two_pow_pos _⟩
  | i + 1, h => by
    obtain ⟨a, b⟩ := sz_s i fun w hw => h w (by omega)
    obtain ⟨c, d⟩ := sz_n (M := M) (h i (by omega)).1 (h i (by omega)).2
    exact ⟨(a.add c).mono (by omega), (b.add d).mono (by omega)⟩
theorem shl2 {k : Int} (h : 0 ≤ k) : (1 : Int) * 2 ^ (2 * k).toNat = p2 k * p2 k := by
  have : (1 : Int) * 2 ^ (2 * k).toNat = p2 (2 * k) := Int.one_mul _
  rw [this, show 2 * k = k + k by omega, p2_add h h]
section
variable {P : Program} {w : World} {K : PySem.W.Frag} {mg : Str → Option Value} {base : Heap} {k : Nat} {h : Heap}
theorem sc_div : FnScope ["_law_one", "_law_other"] ["_law_one", "_law_other"] (defScope (top 58)) := ⟨rfl, rfl, rfl, by decide +kernel, rfl, by decide +kernel, by decide +kernel⟩
theorem ok_div (F : FunAt K "_law_divisor" (top 58) .none) (X : K.In h) (G : h.Ns mainGlobals mg) (B : Bs mg) : Cal P w K mg base (k + 1) "_law_divisor" ["_law_one", "_law_other"] spDiv := by
  have nd := sc_div.nd
  refine F.cal X G sc_div (bnd2 fun _ _ _ _ _ _ _ _ => rfl) (fun vs H Q E h => ?_) (fun f cdv A outer s H vs Q E hr h => ?_)
  · obtain ⟨a, b, rfl, _⟩ := h; rfl
  obtain ⟨a, b, rfl, q⟩ := h
  refine ⟨_, (@pss_cons _ _ _ _ _ (@ps_set _ _ 0 _ _ _ _ nd rfl (Or.inl rfl) (pe_callB call_abs rfl B.abs boot_abs (pa_cons (pv 0) pa_nil)) rfl (.inl rfl))
    (@pss_cons _ _ _ _ _ (@ps_set _ _ 1 _ _ _ _ nd rfl (Or.inl rfl) (pe_callB call_abs rfl B.abs boot_abs (pa_cons (pv 1) pa_nil)) rfl (.inl rfl))
    (@pss_cons _ _ _ _ _ (ps_while PassesOwn.never (pt_cmpR op_gt (pv 1) pe_int (nomark _))
      (@pss_one _ _ _ (ps_par (i := 0) (j := 1) rfl nd rfl rfl (by decide) rfl rfl (pa_cons (pv 1) (pa_cons (pe_op op_mod (pv 0) (pv 1)) pa_nil)) rfl)))
    (@pss_one _ _ _ (ps_ret (pv 0)))))), ?_⟩
  try dsimp only [cxK]
  refine ⟨_, rfl, _, rfl, _, rfl, _, rfl, fun m σ H' => H' = H ∧ ∃ a' b' : Int, m = b'.toNat ∧ σ = [some (.int a'), some (.int b')] ∧ 0 ≤ a' ∧ 0 ≤ b' ∧ Int.gcd a' b' = Int.gcd a b, ⟨_, rfl, _, _, rfl, rfl, (by split <;> omega), (by split <;> omega), ?_⟩, ?_⟩
  · rw [abs_if, abs_if]
    simp [Int.gcd]
  rintro m σ H' ⟨rfl, a', b', rfl, rfl, a0, b0, e⟩
  refine ⟨_, rfl, _, _, rfl, rfl, _, rfl, decI (fun c => ?_) (fun c => ?_)⟩
  · refine ⟨_, fun _ _ z => z, _, rfl, _, rfl, _, rfl, _, _, rfl, rfl, c, _, _, rfl, (a' % b').toNat, ?_, rfl, _, _, rfl, rfl, b0, Int.emod_nonneg _ (Int.ne_of_gt c), ?_⟩
    · have := Int.emod_lt_of_pos a' c
      have := Int.emod_nonneg a' (Int.ne_of_gt c)
      omega
    · rw [gcd_step a0 c]; exact e
  · have b00 : b' = 0 := by omega
    subst b00
    rw [Int.gcd_zero_right] at e
    refine ⟨_, rfl, ?_⟩
    rw [← e] at q
    have : ((a'.natAbs : Nat) : Int) = a' := by omega
    rw [this] at q
    exact q

theorem sc_heftis : FnScope ["_law_found", "_law_board", "_law_most", "_law_top", "_law_side", "_law_a", "_law_b", "_law_c", "_law_d", "_law_h", "_law_by", "_law_over"] ["_law_found", "_law_board"] (defScope (top 59)) := ⟨rfl, rfl, rfl, by decide +kernel, rfl, by decide +kernel, by decide +kernel⟩
theorem ok_heftis (F : FunAt K "_law_heft_is" (top 59) .none) (X : K.In h) (G : h.Ns mainGlobals mg) (B : Bs mg) (c__law_whole : Cal P w K mg base k "_law_whole" ["_law_found"] spWhole) (c__law_divisor : Cal P w K mg base k "_law_divisor" ["_law_one", "_law_other"] spDiv) : Cal P w K mg base (k + 1) "_law_heft_is" ["_law_found", "_law_board"] spHeftIs := by
  have nd := sc_heftis.nd
  refine F.cal X G sc_heftis (bnd2 fun _ _ _ _ _ _ _ _ => rfl) (fun vs H Q E h => ?_) (fun f cdv A outer s H vs Q E hr h => ?_)
  · obtain ⟨p, l, x, y, z, ps, f, c, n, m, rfl, _⟩ := h; rfl
  obtain ⟨p, l, x, y, z, ps, g, c, n, m, rfl, hp, BD, c6, n1, m1, he, zx, zy, zz, kq⟩ := h
  have p6 := pow6 c6
  have pp : 0 < 2 ^ c := Nat.two_pow_pos c
  have lps : (ps.map V.ref).length = 2 ^ c := by rw [List.length_map, BD.len]
  have S : SqT K H p ([x, y, z].map V.int) := SqT.of hp
  refine ⟨_, (@pss_cons _ _ _ _ _ (ps_if (PW.pt (pw_or (pt_not (pt_val (pe_callB call_isinst rfl B.isinstance boot_isinstance (pa_cons (pv 0) (pa_cons (pe_bltn (v := .ty "tuple") rfl B.tuple boot_tuple rfl) pa_nil))))) (pw_or (pt_cmpR op_ne (pe_callB call_len_seq rfl B.len PySem.boot_len (pa_cons (pv 0) pa_nil)) pe_int (nomark _)) (pw_or1 (pt_not (pt_val (pe_callB (call_allL rfl) rfl B.all boot_all (pa_cons (pe_lc rfl (LcOk.of (Nc := ["_law_part"]) (mp := [none]) (by kernel_rfl)) (pi_tup (pv 0)) (fun _ _ _ _ => (pg_name (i := 0) (show (["_law_part"] : List Str).Nodup by decide +kernel) rfl (Or.inl rfl))) (fun _ _ _ _ => (pe_cal c__law_whole hr rfl (pa_cons (pv 0) pa_nil)))) pa_nil))))))))
      (@pss_one _ _ _ (ps_ret pe_bl))
      pss_nil)
    (@pss_cons _ _ _ _ _ (ps_if (PW.pt (pw_or (pt_cmpR op_lt (pe_ix ix_tup (pv 0) pe_int (fun _ _ => rfl)) pe_int (nomark _)) (pw_or1 (pt_cmpR op_ne (pe_cal c__law_divisor hr rfl (pa_cons (pe_cal c__law_divisor hr rfl (pa_cons (pe_ix ix_tup (pv 0) pe_int (fun _ _ => rfl)) (pa_cons (pe_ix ix_tup (pv 0) pe_int (fun _ _ => rfl)) pa_nil))) (pa_cons (pe_ix ix_tup (pv 0) pe_int (fun _ _ => rfl)) pa_nil))) pe_int (nomark _)))))
      (@pss_one _ _ _ (ps_ret pe_bl))
      pss_nil)
    (@pss_cons _ _ _ _ _ (@ps_set _ _ 2 _ _ _ _ nd rfl (Or.inl rfl) (pe_callB (call_maxL rfl) rfl B.max boot_max (pa_cons (pe_lc rfl (LcOk.of (Nc := ["_law_one"]) (mp := [none]) (by kernel_rfl)) (pi_list (pv 1)) (fun _ _ _ _ => (pg_name (i := 0) (show (["_law_one"] : List Str).Nodup by decide +kernel) rfl (Or.inl rfl))) (fun _ _ _ _ => (pe_ix ix_tupC (pv 0) pe_int (fun _ _ => rfl)))) pa_nil)) rfl (.inl rfl))
    (@pss_cons _ _ _ _ _ (@ps_set _ _ 3 _ _ _ _ nd rfl (Or.inl rfl) pe_int rfl (.inl rfl))
    (@pss_cons _ _ _ _ _ (@ps_set _ _ 4 _ _ _ _ nd rfl (Or.inl rfl) pe_int rfl (.inl rfl))
    (@pss_cons _ _ _ _ _ (ps_for PassesOwn.never rfl (pi_list (pv 1)) (@pg_tup _ _ _ _ _ _ rfl (@pgs_cons _ _ _ _ _ (@pg_name _ _ 5 _ nd rfl (Or.inl rfl) (by first | exact .inl rfl | exact .inr rfl)) (@pgs_cons _ _ _ _ _ (@pg_name _ _ 6 _ nd rfl (Or.inl rfl) (by first | exact .inl rfl | exact .inr rfl)) (@pgs_cons _ _ _ _ _ (@pg_name _ _ 7 _ nd rfl (Or.inl rfl) (by first | exact .inl rfl | exact .inr rfl)) (@pgs_cons _ _ _ _ _ (@pg_name _ _ 8 _ nd rfl (Or.inl rfl) (by first | exact .inl rfl | exact .inr rfl)) (@pgs_cons _ _ _ _ _ (@pg_name _ _ 9 _ nd rfl (Or.inl rfl) (by first | exact .inl rfl | exact .inr rfl)) pgs_nil rfl) rfl) rfl) rfl) rfl) rfl rfl)
      (@pss_cons _ _ _ _ _ (@ps_set _ _ 10 _ _ _ _ nd rfl (Or.inl rfl) (pe_op op_shlS pe_int (pe_op op_mul pe_int (pe_op op_sub (pv 2) (pv 9)))) rfl (.inl rfl))
      (@pss_cons _ _ _ _ _ (@ps_set _ _ 3 _ _ _ _ nd rfl (Or.inl rfl) (pe_op op_add (pv 3) (pe_op op_mulG (pe_op op_add (pe_op op_add (pe_op op_add (pe_op op_mulG (pv 5) (pv 5)) (pe_op op_mulG (pv 6) (pv 6))) (pe_op op_mulG (pv 7) (pv 7))) (pe_op op_mulG (pv 8) (pv 8))) (pv 10))) rfl (.inl rfl))
      (@pss_one _ _ _ (@ps_set _ _ 4 _ _ _ _ nd rfl (Or.inl rfl) (pe_op op_add (pv 4) (pe_op op_mulG (pe_op op_sub (pe_op op_add (pe_op op_add (pe_op op_mulG (pv 5) (pv 6)) (pe_op op_mulG (pv 6) (pv 7))) (pe_op op_mulG (pv 7) (pv 8))) (pe_op op_mulG (pv 8) (pv 5))) (pv 10))) rfl (.inl rfl))))))
    (@pss_cons _ _ _ _ _ (@ps_set _ _ 11 _ _ _ _ nd rfl (Or.inl rfl) (pe_op op_shlS pe_int (pe_op op_mul pe_int (pv 2))) rfl (.inl rfl))
    (@pss_one _ _ _ (ps_ret (pe_and (pe_cmpR op_eq (pe_op op_mulG (pe_ix ix_tup (pv 0) pe_int (fun _ _ => rfl)) (pv 11)) (pe_op op_mulG (pv 3) (pe_ix ix_tup (pv 0) pe_int (fun _ _ => rfl))) (nomark _)) (pe_one (pe_cmpR op_eq (pe_op op_mulG (pe_ix ix_tup (pv 0) pe_int (fun _ _ => rfl)) (pv 11)) (pe_op op_mulG (pv 4) (pe_ix ix_tup (pv 0) pe_int (fun _ _ => rfl))) (nomark _))))))))))))), ?_⟩
  try dsimp only [cxK]
  refine ⟨_, rfl, _, _, _, true, rfl, TyOf.tup hp, kit_tt K, _, rfl, iteF ⟨_, rfl, p, _, rfl, .inr S, rfl, _, rfl, neI (fun c => absurd rfl c) (fun _ => ⟨_, rfl, p, rfl, ⟨_, S⟩, fun acc hacc => ?_⟩)⟩⟩
  refine lc_tupP (ns := [x, y, z]) (fr := []) (fun _ => .bl true) S t3 hacc (fun i H2 N s2 kN => ⟨_, rfl, i, rfl, kN⟩) (fun H2 S2 a2 => ?_)
  refine ⟨acc, [true, true, true], rfl, SqL.of a2, _, rfl, iteF ?_⟩
  have T2 := S2.tup S
  have cop : Int.gcd ((Int.gcd x y : Nat) : Int) z = 1 := by
    have := he.cop
    unfold Cop at this
    simp only [Int.gcd, Int.natAbs_natCast]
    exact this
  refine ⟨_, rfl, p, _, _, _, rfl, rfl, T2, rfl, _, _, rfl, rfl, _, rfl, decI (fun z1 => absurd z1 (by have := he.pos; omega)) (fun _ => ?_)⟩
  refine ⟨_, rfl, p, _, _, _, rfl, rfl, T2, rfl, _, rfl, p, _, _, _, rfl, rfl, T2, rfl, _, _, rfl, _, rfl, p, _, _, _, rfl, rfl, T2, rfl, _, _, rfl, rfl, _, rfl, neI (fun c => absurd (by rw [cop]; rfl) c) (fun _ => ?_)⟩
  have BD2 := BD.same S2
  have SC := SqL.of (K := K) BD2.lst
  refine ⟨_, rfl, l, rfl, ⟨_, SC⟩, fun ac2 hac2 => ?_⟩
  refine lc_list (K := K) (a := l) (xs := ps.map V.ref) (fr := []) (fun i ys H' => Same H2 H' ∧ H' ac2 = some (.lst ys) ∧ ∃ hs : List Int, ys = hs.map V.int ∧ hs.length = i ∧ (∀ e ∈ hs, 0 ≤ e ∧ e ≤ m) ∧ (∀ j, j < i → (g j).2 ∈ hs))
    (by rw [lps]; exact t64 p6) ⟨same_new hac2 _, upd_same, [], rfl, rfl, by simp, fun j hj => absurd hj (Nat.not_lt_zero _)⟩ (fun i ys H' e => e.1.seq SC) ?_ ?_
  · rintro i v ys H3 N hx hy ⟨S3, a3, hs, rfl, hl, hm, h1⟩ kN
    rw [List.getElem?_map] at hx
    obtain ⟨pi, hpi, rfl⟩ := Option.map_eq_some_iff.mp hx
    have il : i < 2 ^ c := by rw [← BD.len]; exact (List.getElem?_eq_some_iff.mp hpi).1
    have oy := BD.ok i il
    have SP : SqT K H3 pi ((l5 (g i)).map V.int) := SqT.of (S3 _ _ (BD2.vals i pi hpi))
    refine ⟨_, rfl, pi, _, _, _, rfl, rfl, SP, rfl, ?_⟩
    refine kN _ _ a3 ⟨same_upd S3 hac2, upd_same, hs ++ [(g i).2], by rw [List.map_append]; rfl, by simp [hl], fun e hm' => ?_, fun j hj => ?_⟩
    · rcases List.mem_append.mp hm' with z | z
      · exact hm e z
      · rw [List.mem_singleton.mp z]; exact ⟨oy.amt.nn, oy.le⟩
    · by_cases e : j = i
      · subst e; simp
      · exact List.mem_append_left _ (h1 j (by omega))
  rintro ys H3 hy ⟨S3, a3, hs, rfl, hl, hm, h1⟩
  rw [lps] at hl h1
  refine ⟨ac2, hs, rfl, SqL.of a3, by omega, fun M hM1 hM2 => ?_⟩
  have Mm := hm M hM1
  have M1 : ∀ w, w < 2 ^ c → (g w).2 ≤ M := fun w hw => hM2 _ (h1 w hw)
  obtain ⟨E1, E2⟩ := he.eq M Mm.1 M1
  have BD3 := BD2.same S3
  have S3' := S2.trans S3
  have SX := SqL.of (K := K) BD3.lst
  refine ⟨_, rfl, l, rfl, ⟨_, SX⟩, for_list (K := K) (a := l) (xs := ps.map V.ref) (fun j σ H' => H' = H3 ∧ ∃ v5 v6 v7 v8 v9 v10, σ = [some (.ref p), some (.ref l), some (.int M), some (.int (sTop g j M)), some (.int (sSide g j M)), v5, v6, v7, v8, v9, v10, none]) ⟨rfl, _, _, _, _, _, _, rfl⟩ (fun j σ H' _ e => by rw [e.1]; exact SX) ?_ ?_⟩
  · rintro j v σ H' hx ⟨rfl, v5, v6, v7, v8, v9, v10, rfl⟩
    rw [List.getElem?_map] at hx
    obtain ⟨pj, hpj, rfl⟩ := Option.map_eq_some_iff.mp hx
    have jl : j < 2 ^ c := by rw [← BD.len]; exact (List.getElem?_eq_some_iff.mp hpj).1
    have p0 := BD3.vals j pj hpj
    have ok := BD.ok j jl
    have yl := M1 j jl
    have y0 : 0 ≤ (g j).2 := ok.amt.nn
    have za := ok.sz.z1
    have zb := ok.sz.z2
    have zc := ok.sz.z3
    have zd := ok.sz.z4
    have e0 := shl2 (k := M - (g j).2) (by omega)
    have zy' : Sz ((2 * (M - (g j).2)).toNat + 1) (1 * 2 ^ (2 * (M - (g j).2)).toNat) := by rw [Int.one_mul]; exact sz_pow _
    refine ⟨pj, _, rfl, SqT.of p0, rfl, _, _, rfl, _, _, rfl, _, _, rfl, _, _, rfl, _, _, rfl, rfl, ?_⟩
    refine ⟨_, rfl, _, rfl, _, _, rfl, rfl, _, _, rfl, rfl, .inl ⟨by decide, by decide⟩, _, _, rfl, rfl, ⟨1, sz1, by omega, by omega⟩, ?_⟩
    refine ⟨_, rfl, _, rfl, _, rfl, _, _, rfl, rfl, ⟨_, _, za, za, by omega⟩, _, rfl, _, rfl, _, _, rfl, rfl, ⟨_, _, zb, zb, by omega⟩, _, _, rfl, rfl, _, rfl, _, rfl, _, _, rfl, rfl, ⟨_, _, zc, zc, by omega⟩, _, _, rfl, rfl, _, rfl, _, rfl, _, _, rfl, rfl, ⟨_, _, zd, zd, by omega⟩, _, _, rfl, rfl, _, rfl, _, _, rfl, rfl, ⟨_, _, (((za.mul za).add (zb.mul zb)).add (zc.mul zc)).add (zd.mul zd), zy', by omega⟩, _, _, rfl, rfl, ?_⟩
    refine ⟨_, rfl, _, rfl, _, rfl, _, _, rfl, rfl, ⟨_, _, za, zb, by omega⟩, _, rfl, _, rfl, _, _, rfl, rfl, ⟨_, _, zb, zc, by omega⟩, _, _, rfl, rfl, _, rfl, _, rfl, _, _, rfl, rfl, ⟨_, _, zc, zd, by omega⟩, _, _, rfl, rfl, _, rfl, _, rfl, _, _, rfl, rfl, ⟨_, _, zd, za, by omega⟩, _, _, rfl, rfl, _, rfl, _, _, rfl, rfl, ⟨_, _, (((za.mul zb).add (zb.mul zc)).add (zc.mul zd)).sub (zd.mul za), zy', by omega⟩, _, _, rfl, rfl, ?_⟩
    have X1 : sTop g (j + 1) M = sTop g j M + ((g j).1.1 * (g j).1.1 + (g j).1.2.1 * (g j).1.2.1 + (g j).1.2.2.1 * (g j).1.2.2.1 + (g j).1.2.2.2 * (g j).1.2.2.2) * (1 * 2 ^ (2 * (M - (g j).2)).toNat) := by
      rw [e0]
      show sTop g j M + nTop (g j) M = _
      rw [nTop_eq]; rfl
    have X2 : sSide g (j + 1) M = sSide g j M + ((g j).1.1 * (g j).1.2.1 + (g j).1.2.1 * (g j).1.2.2.1 + (g j).1.2.2.1 * (g j).1.2.2.2 - (g j).1.2.2.2 * (g j).1.1) * (1 * 2 ^ (2 * (M - (g j).2)).toNat) := by
      rw [e0]
      show sSide g j M + nSide (g j) M = _
      rw [nSide_eq]; rfl
    refine ⟨rfl, some (.int (g j).1.1), some (.int (g j).1.2.1), some (.int (g j).1.2.2.1), some (.int (g j).1.2.2.2), some (.int (g j).2), some (.int (1 * 2 ^ (2 * (M - (g j).2)).toNat)), ?_⟩
    rw [X1, X2]
    rfl
  · rintro σ H' ⟨rfl, v5, v6, v7, v8, v9, v10, rfl⟩
    rw [lps]
    obtain ⟨z1, z2⟩ := sz_s (f := g) (n := n) (M := M) (2 ^ c) fun w hw => ⟨(BD.ok w hw).sz, (BD.ok w hw).amt.nn⟩
    have o2 := shl2 (k := M) Mm.1
    have zo : Sz ((2 * M).toNat + 1) (1 * 2 ^ (2 * M).toNat) := by rw [Int.one_mul]; exact sz_pow _
    have T3' := S3'.tup S
    refine ⟨_, rfl, _, _, rfl, rfl, .inl ⟨by decide, by decide⟩, _, _, rfl, rfl, ⟨1, sz1, by omega, by omega⟩, ?_⟩
    have Y1 : x * (1 * 2 ^ (2 * M).toNat) = sTop g (2 ^ c) M * z := by rw [o2]; exact E1
    have Y2 : y * (1 * 2 ^ (2 * M).toNat) = sSide g (2 ^ c) M * z := by rw [o2]; exact E2
    refine ⟨_, rfl, p, _, _, _, rfl, rfl, T3', rfl, _, rfl, _, _, rfl, rfl, ⟨500000, (2 * M).toNat + 1, zx, zo, by omega⟩, _, rfl, _, rfl, p, _, _, _, rfl, rfl, T3', rfl, _, _, rfl, rfl, ⟨_, _, z1, zz, by omega⟩, rfl, _, rfl, ?_⟩
    have D1 : decide (V.int (x * (1 * 2 ^ (2 * M).toNat)) = V.int (sTop g (2 ^ c) M * z)) = true := decide_eq_true (congrArg V.int Y1)
    have D2 : decide (V.int (y * (1 * 2 ^ (2 * M).toNat)) = V.int (sSide g (2 ^ c) M * z)) = true := decide_eq_true (congrArg V.int Y2)
    rw [D1]
    refine iteT ⟨_, rfl, p, _, _, _, rfl, rfl, T3', rfl, _, rfl, _, _, rfl, rfl, ⟨500000, (2 * M).toNat + 1, zy, zo, by omega⟩, _, rfl, _, rfl, p, _, _, _, rfl, rfl, T3', rfl, _, _, rfl, rfl, ⟨_, _, z2, zz, by omega⟩, rfl, ?_⟩
    show Q (.bl (decide (V.int (y * (1 * 2 ^ (2 * M).toNat)) = V.int (sSide g (2 ^ c) M * z)))) H'
    rw [D2]
    exact kq _ S3'
end
end K25

set_option maxHeartbeats 4000000
namespace K25
open PySem PySem.Spec PyProof.Rows L2 Am Pc Ba K14 K15n Hw
open Pt hiding kit_tt
theorem cut_from {xs : List V} {p : Nat} {i : Int} (hi : i = p) : cutV xs (some i) none = xs.drop p := by
  subst hi
  unfold cutV
  rw [HT.sIx_nat]
  have e2 : HT.sIx xs.length xs.length none = xs.length := rfl
  rw [e2]
  by_cases h : p ≤ xs.length
  · rw [Nat.min_eq_left h, List.take_of_length_le (by rw [List.length_drop]; exact Nat.le_refl _)]
  · rw [Nat.min_eq_right (by omega), Nat.sub_self, List.take_zero, List.drop_eq_nil_of_le (by omega)]
theorem cut_to {xs : List V} {p : Nat} {e : Int} (he : e = p) : cutV xs none (some e) = xs.take p := by
  subst he
  unfold cutV
  rw [HT.sIx_nat]
  have e2 : HT.sIx xs.length 0 none = 0 := rfl
  rw [e2, List.drop_zero, Nat.sub_zero]
  by_cases h : p ≤ xs.length
  · rw [Nat.min_eq_left h]
  · rw [Nat.min_eq_right (by omega), List.take_of_length_le (Nat.le_refl _), List.take_of_length_le (by omega)]
theorem kit_tl (K : PySem.W.Frag) : PySem.W.kitOne K (.type "tuple") (.type "list") = some false := by with_unfolding_all rfl
theorem kit_nl (K : PySem.W.Frag) : PySem.W.kitOne K (.type "NoneType") (.type "list") = some false := by with_unfolding_all rfl
theorem kit_dl (K : PySem.W.Frag) : PySem.W.kitOne K (.type "dict") (.type "list") = some false := by with_unfolding_all rfl
theorem kit_sl (K : PySem.W.Frag) : PySem.W.kitOne K (.type "str") (.type "list") = some false := by with_unfolding_all rfl
theorem kit_il (K : PySem.W.Frag) : PySem.W.kitOne K (.type "int") (.type "list") = some false := by with_unfolding_all rfl
theorem kit_bol (K : PySem.W.Frag) : PySem.W.kitOne K (.type "bool") (.type "list") = some false := by with_unfolding_all rfl
theorem t6 : 6 ≤ sizeLine := by decide
theorem t7 : 7 ≤ sizeLine := by decide
theorem t0 : 0 ≤ sizeLine := by decide
theorem ValsK.of {K : PySem.W.Frag} {H : Hp} {ps : List Addr} {f : Nat → A5} (v : Vals5 H ps f) : ValsK K H ps f := fun i p e => At5.of (v i p e)
def spBegun : Sp := fun vs H Q _ => ∃ c x : Nat, vs = [.int c, .int x] ∧ 1 ≤ c ∧ c ≤ 6 ∧ x < 2 ^ c ∧ ∀ H', Same H H' → Q (.bl true) H'
def spSpoil (K : PySem.W.Frag) : Sp := fun vs H Q _ => ∃ (l : Addr) (ps : List Addr) (f : Nat → A5) (c way far : Nat), vs = [.ref l, .int way, .int far] ∧ Bd H l ps f c 100 440 ∧ 1 ≤ c ∧ c ≤ 6 ∧ way < 7 ∧ ∀ (v : V) (H' : Hp), Same H H' → NoBd K H' v → Q v H'
def spBadStart (K : PySem.W.Frag) : Sp := fun vs H Q _ => ∃ (c : Nat) (z : Int), vs = [.int c, .int z] ∧ 1 ≤ c ∧ c ≤ 6 ∧ ∀ (p : Addr) (v u : V) (H' : Hp), Same H H' → H' p = some (.tup [v, u]) → NoBeg K H' v u → Q (.ref p) H'
theorem no_item {K : PySem.W.Frag} {H : Hp} {l : Addr} {ps : List Addr} {f : Nat → A5} {c n m j : Nat} {v : V} {l' : Addr} (BD : Bd H l ps f c n m) (c6 : c ≤ 6) (hj : j < 2 ^ c) (hl : H l' = some (.lst ((ps.map V.ref).take j ++ [v] ++ (ps.map V.ref).drop (j + 1)))) (tv : Tel K H v false) : NoBd K H (.ref l') := by
  have p6 := pow6 c6
  have all : ∀ p ∈ ps, Tel K H (.ref p) true := fun p hp => by
    obtain ⟨i, hi⟩ := List.mem_iff_getElem?.mp hp
    have il : i < 2 ^ c := by rw [← BD.len]; exact (List.getElem?_eq_some_iff.mp hi).1
    exact .yes (BD.vals i p hi) (BD.ok i il).amt
  refine .item hl ?_ (bs := (ps.take j).map (fun _ => true) ++ [false] ++ (ps.drop (j + 1)).map (fun _ => true)) ?_ ?_
  · have := BD.len
    simp only [List.length_append, List.length_take, List.length_drop, List.length_map, List.length_cons, List.length_nil]
    omega
  · rw [← List.map_take, ← List.map_drop]
    exact pr_app (pr_app (pr_ok fun p hp => all p (List.mem_of_mem_take hp)) (.cons tv .nil)) (pr_ok fun p hp => all p (List.mem_of_mem_drop hp))
  · rw [List.all_append, List.all_append]
    simp
theorem few : ((List.range 64).all fun i => (decide (i ≤ 1) || !decide (i &&& (i - 1) = 0) || !inV (.int ((i - 1 : Nat) : Int)) LEN) && ((decide (1 < i) && decide (i &&& (i - 1) = 0)) || !inV (.int (i : Int)) LEN)) = true := by decide +kernel
theorem few_a {i : Nat} (h : i < 64) (h1 : 1 < i) (h2 : i &&& (i - 1) = 0) : inV (.int ((i - 1 : Nat) : Int)) LEN = false := by
  have := List.all_eq_true.mp few i (List.mem_range.mpr h)
  rw [Bool.and_eq_true] at this
  have a := this.1
  rw [decide_eq_false (by omega), decide_eq_true h2] at a
  simpa using a
theorem few_b {i : Nat} (h : i < 64) (h1 : ¬ (1 < i ∧ i &&& (i - 1) = 0)) : inV (.int (i : Int)) LEN = false := by
  have := List.all_eq_true.mp few i (List.mem_range.mpr h)
  rw [Bool.and_eq_true] at this
  have a := this.2
  have e : (decide (1 < i) && decide (i &&& (i - 1) = 0)) = false := by
    rw [Bool.and_eq_false_iff]
    by_cases q : 1 < i
    · exact .inr (decide_eq_false fun z => h1 ⟨q, z⟩)
    · exact .inl (decide_eq_false q)
  rw [e] at a
  simpa using a
section
variable {P : Program} {w : World} {K : PySem.W.Frag} {mg : Str → Option Value} {base : Heap} {k : Nat} {h : Heap}
theorem sc_begun : FnScope ["_law_cells", "_law_word", "_law_due"] ["_law_cells", "_law_word"] (defScope (top 60)) := ⟨rfl, rfl, rfl, by decide +kernel, rfl, by decide +kernel, by decide +kernel⟩
theorem ok_begun (F : FunAt K "_law_begun" (top 60) .none) (X : K.In h) (G : h.Ns mainGlobals mg) (c_start : Sts P w K mg base k) (c__law_board_is : Cal P w K mg base k "_law_board_is" ["_law_found", "_law_due"] (spBoardIsK K)) : Cal P w K mg base (k + 1) "_law_begun" ["_law_cells", "_law_word"] spBegun := by
  have nd := sc_begun.nd
  refine F.cal X G sc_begun (bnd2 fun _ _ _ _ _ _ _ _ => rfl) (fun vs H Q E h => ?_) (fun f cdv A outer s H vs Q E hr h => ?_)
  · obtain ⟨c, x, rfl, _⟩ := h; rfl
  obtain ⟨c, x, rfl, c1, c6, xc, kq⟩ := h
  have p6 := pow6 c6
  have p0 : 0 < 2 ^ c := Nat.two_pow_pos c
  have hN : (1 : Int) * 2 ^ ((c : Int).toNat) = ((2 ^ c : Nat) : Int) := ipow c
  refine ⟨_, (@pss_cons _ _ _ _ _ (@ps_set _ _ 2 _ _ _ _ nd rfl (Or.inl rfl) (pe_op op_rep (@pe_lst _ _ _ _ (pa_cons (@pe_tup _ _ _ _ _ (pa_cons pe_int (pa_cons pe_int (pa_cons pe_int (pa_cons pe_int (pa_cons pe_int pa_nil)))))) pa_nil)) (pe_op op_shlS pe_int (pv 0))) rfl (.inl rfl))
    (@pss_cons _ _ _ _ _ (ps_asg (@pe_tup _ _ _ _ _ (pa_cons pe_int (pa_cons pe_int (pa_cons pe_int (pa_cons pe_int (pa_cons pe_int pa_nil)))))) (pg_sub (pv 2) pe_int set_list))
    (@pss_cons _ _ _ _ _ (ps_if (pt_not (pt_val (pe_cal c__law_board_is hr rfl (pa_cons (pe_calD c_start.d1 hr rfl (pa_cons (pv 0) pa_nil)) (pa_cons (pv 2) pa_nil)))))
      (@pss_one _ _ _ (ps_ret pe_bl))
      pss_nil)
    (@pss_cons _ _ _ _ _ (ps_asg (@pe_tup _ _ _ _ _ (pa_cons pe_int (pa_cons pe_int (pa_cons pe_int (pa_cons pe_int (pa_cons pe_int pa_nil)))))) (pg_sub (pv 2) pe_int set_list))
    (@pss_cons _ _ _ _ _ (ps_asg (@pe_tup _ _ _ _ _ (pa_cons pe_int (pa_cons pe_int (pa_cons pe_int (pa_cons pe_int (pa_cons pe_int pa_nil)))))) (pg_sub (pv 2) (pv 1) set_list))
    (@pss_one _ _ _ (ps_ret (pe_cal c__law_board_is hr rfl (pa_cons (pe_cal c_start.c hr rfl (pa_cons (pv 0) (pa_cons (pv 1) pa_nil))) (pa_cons (pv 2) pa_nil)))))))))), ?_⟩
  try dsimp only [cxK]
  refine ⟨t5, fun t ht => ⟨s1l, fun lo hlo => ⟨_, rfl, _, _, rfl, rfl, ⟨1, sz1, by omega, by omega⟩, lo, _, _, rfl, rfl, upd_same, by rw [hN]; omega, by rw [hN]; omega, by rw [hN, Int.toNat_natCast]; exact Nat.le_trans (by simp; exact p6) (show 64 ≤ sizeLine by decide), fun l2 hl2 => ?_⟩⟩⟩
  have s1 := same_new ht (tA ((0, 0, 0, 0), 0))
  have s2 := s1.trans (same_new hlo (.lst [V.ref t]))
  have n2 : H l2 = none := fresh_of s2 hl2
  have s3 := s2.trans (same_new hl2 (.lst (List.replicate (1 * 2 ^ ((c : Int).toNat) : Int).toNat [V.ref t]).flatten))
  have B3 : Bd (upd (upd (upd H t (tA ((0, 0, 0, 0), 0))) lo (.lst [V.ref t])) l2 (.lst (List.replicate (1 * 2 ^ ((c : Int).toNat) : Int).toNat [V.ref t]).flatten)) l2 (List.replicate (2 ^ c) t) (fun _ => ((0, 0, 0, 0), 0)) c 100 40 := by
    refine ⟨by rw [upd_same, hN, Int.toNat_natCast, rep_ref], List.length_replicate, fun i q hq => ?_, fun _ _ => ok_n⟩
    rw [List.getElem?_replicate] at hq
    split at hq
    · cases hq
      exact same_new hl2 _ _ _ (same_new hlo _ _ _ upd_same)
    · cases hq
  generalize upd (upd (upd H t (tA ((0, 0, 0, 0), 0))) lo (.lst [V.ref t])) l2 (.lst (List.replicate (1 * 2 ^ ((c : Int).toNat) : Int).toNat [V.ref t]).flatten) = H3 at *
  refine ⟨t5, fun u1 hu1 => ⟨_, rfl, l2, _, _, 0, rfl, rfl, same_new hu1 _ _ _ B3.lst, (by rw [List.length_map, List.length_replicate]; exact ixn (i := 0) p0), ?_⟩⟩
  have B4 := (B3.same (same_new hu1 (tA ((1, 0, 0, 0), 0)))).put (j := 0) upd_same ok_1
  have s4 := same_upd (o := .lst (((List.replicate (2 ^ c) t).map V.ref).set 0 (.ref u1))) (s3.trans (same_new hu1 (tA ((1, 0, 0, 0), 0)))) n2
  generalize upd (upd H3 u1 (tA ((1, 0, 0, 0), 0))) l2 (.lst (((List.replicate (2 ^ c) t).map V.ref).set 0 (.ref u1))) = H4 at *
  generalize (List.replicate (2 ^ c) t).set 0 u1 = ps4 at *
  refine ⟨_, rfl, c, 0, rfl, c1, c6, p0, fun r1 H5 q1 nr1 S5 hr1 ql1 v1 => ?_⟩
  have B5 := B4.same S5
  refine ⟨_, rfl, r1, l2, q1, ps4, st 0, _, rfl, hr1, B5.lst, by rw [ql1, B5.len], by rw [ql1]; exact p6, v1, ValsK.of B5.vals, fun i hi => rfl, _, rfl, iteF ?_⟩
  refine ⟨t5, fun u2 hu2 => ⟨_, rfl, l2, _, _, 0, rfl, rfl, same_new hu2 _ _ _ B5.lst, (by rw [List.length_map, B5.len]; exact ixn (i := 0) p0), ?_⟩⟩
  have B6 := (B5.same (same_new hu2 (tA ((0, 0, 0, 0), 0)))).put (j := 0) upd_same ok_n
  have s6 := same_upd (o := .lst ((ps4.map V.ref).set 0 (.ref u2))) ((s4.trans S5).trans (same_new hu2 (tA ((0, 0, 0, 0), 0)))) n2
  generalize upd (upd H5 u2 (tA ((0, 0, 0, 0), 0))) l2 (.lst ((ps4.map V.ref).set 0 (.ref u2))) = H6 at *
  generalize ps4.set 0 u2 = ps6 at *
  refine ⟨t5, fun u3 hu3 => ⟨_, rfl, _, rfl, l2, _, _, x, rfl, rfl, same_new hu3 _ _ _ B6.lst, (by rw [List.length_map, B6.len]; exact ixn xc), ?_⟩⟩
  have B7 := (B6.same (same_new hu3 (tA ((1, 0, 0, 0), 0)))).put (j := x) upd_same ok_1
  have s7 := same_upd (o := .lst ((ps6.map V.ref).set x (.ref u3))) (s6.trans (same_new hu3 (tA ((1, 0, 0, 0), 0)))) n2
  generalize upd (upd H6 u3 (tA ((1, 0, 0, 0), 0))) l2 (.lst ((ps6.map V.ref).set x (.ref u3))) = H7 at *
  generalize ps6.set x u3 = ps7 at *
  refine ⟨_, rfl, _, rfl, c, x, rfl, c1, c6, xc, fun r2 H8 q2 nr2 S8 hr2 ql2 v2 => ?_⟩
  have B8 := B7.same S8
  refine ⟨_, rfl, r2, l2, q2, ps7, st x, _, rfl, hr2, B8.lst, by rw [ql2, B8.len], by rw [ql2]; exact p6, v2, ValsK.of B8.vals, fun i hi => ?_, kq _ (s7.trans S8)⟩
  show st x i = if i = x then _ else if i = 0 then _ else if i = 0 then _ else _
  unfold st
  by_cases e : i = x
  · rw [if_pos e, if_pos e]
  · rw [if_neg e, if_neg e]
    by_cases e0 : i = 0
    · rw [if_pos e0]
    · rw [if_neg e0, if_neg e0]
end
end K25

set_option maxHeartbeats 4000000
namespace K25
open PySem PySem.Spec PyProof.Rows L2 Am Pc Ba K14 K15n Hw
open Pt hiding kit_tt
section
variable {P : Program} {w : World} {K : PySem.W.Frag} {mg : Str → Option Value} {base : Heap} {k : Nat} {h : Heap}
theorem sc_spoil : FnScope ["_law_board", "_law_way", "_law_cell", "_law_place", "_law_a", "_law_b", "_law_c", "_law_d", "_law_h", "_law_many", "_law_odd"] ["_law_board", "_law_way", "_law_cell"] (defScope (top 55)) := ⟨rfl, rfl, rfl, by decide +kernel, rfl, by decide +kernel, by decide +kernel⟩
theorem ok_spoil (F : FunAt K "_law_spoiled" (top 55) .none) (X : K.In h) (G : h.Ns mainGlobals mg) (B : Bs mg) : Cal P w K mg base (k + 1) "_law_spoiled" ["_law_board", "_law_way", "_law_cell"] (spSpoil K) := by
  have nd := sc_spoil.nd
  refine F.cal X G sc_spoil (bnd3 fun _ _ _ _ _ _ _ _ _ => rfl) (fun vs H Q E h => ?_) (fun fa cdv A outer s H vs Q E hr h => ?_)
  · obtain ⟨l, ps, f, c, way, far, rfl, _⟩ := h; rfl
  obtain ⟨l, ps, f, c, way, far, rfl, BD, c1, c6, w7, kq⟩ := h
  have p6 := pow6 c6
  have p0 : 0 < 2 ^ c := Nat.two_pow_pos c
  have lps : (ps.map V.ref).length = 2 ^ c := by rw [List.length_map, BD.len]
  have lp : (0 : Int) < ((ps.map V.ref).length : Nat) := by rw [lps]; omega
  obtain ⟨j, hj, ej⟩ := BD.mod (far : Int)
  obtain ⟨p, hp, p1, atj⟩ := BD.at hj
  rcases hfj : f j with ⟨⟨a, b, c', d⟩, hh⟩
  rw [hfj] at p1
  have ok := BD.ok j hj
  rw [hfj] at ok
  have h0 : 0 ≤ hh := ok.amt.nn
  refine ⟨_, (@pss_cut _ _ _ _ _ (@ps_set _ _ 3 _ _ _ _ nd rfl (Or.inl rfl) (pe_op op_mod (pv 2) (pe_callB call_len_seq rfl B.len PySem.boot_len (pa_cons (pv 0) pa_nil))) rfl (.inl rfl))
    (@pss_cons _ _ _ _ _ (ps_asg (pe_ix ix_list (pv 0) (pv 3) (fun _ _ => rfl)) (pg_tup rfl (pgs_cons (pg_name (i := 4) nd rfl (Or.inl rfl)) (pgs_cons (pg_name (i := 5) nd rfl (Or.inl rfl)) (pgs_cons (pg_name (i := 6) nd rfl (Or.inl rfl)) (pgs_cons (pg_name (i := 7) nd rfl (Or.inl rfl)) (pgs_cons (pg_name (i := 8) nd rfl (Or.inl rfl)) pgs_nil)))))))
    (@pss_cons _ _ _ _ _ (ps_if (pt_cmpR op_eq (pv 1) pe_int (nomark _))
      (@pss_cut _ _ _ _ _ (@ps_set _ _ 9 _ _ _ _ nd rfl (Or.inl rfl) (pe_op op_mod (pv 2) (pe_callB call_len_seq rfl B.len PySem.boot_len (pa_cons (pv 0) pa_nil))) rfl (.inl rfl))
      (@pss_cut _ _ _ _ _ (ps_if (PW.pt (pw_and (pt_cmpR op_gt (pv 9) pe_int (nomark _)) (pw_and1 (pt_cmpR op_eq (pe_op op_and (pv 9) (pe_op op_sub (pv 9) pe_int)) pe_int (nomark _)))))
        (@pss_one _ _ _ (@ps_set _ _ 9 _ _ _ _ nd rfl (Or.inl rfl) (pe_op op_sub (pv 9) pe_int) rfl (.inl rfl)))
        pss_nil)
      (@pss_one _ _ _ (ps_ret (pe_slice sl_list (pv 0) po_none (po_some (pv 9)))))))
      pss_nil)
    (@pss_cons _ _ _ _ _ (ps_if (pt_cmpR op_eq (pv 1) pe_int (nomark _))
      (@pss_one _ _ _ (ps_ret (@pe_lst _ _ _ _ pa_nil)))
      pss_nil)
    (@pss_cons _ _ _ _ _ (ps_if (pt_cmpR op_eq (pv 1) pe_int (nomark _))
      (@pss_one _ _ _ (ps_ret (pe_op op_rep (@pe_lst _ _ _ _ (pa_cons (@pe_tup _ _ _ _ _ (pa_cons pe_int (pa_cons pe_int (pa_cons pe_int (pa_cons pe_int (pa_cons pe_int pa_nil)))))) pa_nil)) (pe_callB call_len_seq rfl B.len PySem.boot_len (pa_cons (pv 0) pa_nil)))))
      pss_nil)
    (@pss_cons _ _ _ _ _ (ps_if (pt_cmpR op_eq (pv 1) pe_int (nomark _))
      (@pss_one _ _ _ (ps_ret (pe_callTy call_tuple_of rfl B.tuple boot_tuple (pa_cons (pv 0) pa_nil))))
      pss_nil)
    (@pss_cons _ _ _ _ _ (ps_if (pt_cmpR op_eq (pv 1) pe_int (nomark _))
      (@pss_one _ _ _ (ps_ret (pe_op op_cat (pe_op op_cat (pe_slice sl_list (pv 0) po_none (po_some (pv 3))) (@pe_lst _ _ _ _ (pa_cons (@pe_tup _ _ _ _ _ (pa_cons (pe_op op_mul pe_int (pv 4)) (pa_cons (pe_op op_mul pe_int (pv 5)) (pa_cons (pe_op op_mul pe_int (pv 6)) (pa_cons (pe_op op_mul pe_int (pv 7)) (pa_cons (pe_op op_add (pv 8) pe_int) pa_nil)))))) pa_nil))) (pe_slice sl_list (pv 0) (po_some (pe_op op_add (pv 3) pe_int)) po_none))))
      pss_nil)
    (@pss_cons _ _ _ _ _ (ps_if (pt_cmpR op_eq (pv 1) pe_int (nomark _))
      (@pss_cons _ _ _ _ _ (@ps_set _ _ 10 _ _ _ _ nd rfl (Or.inl rfl) (@pe_lst _ _ _ _ (pa_cons (@pe_tup _ _ _ _ _ (pa_cons (pv 4) (pa_cons (pv 5) (pa_cons (pv 6) (pa_cons (pv 7) pa_nil))))) (pa_cons (@pe_tup _ _ _ _ _ (pa_cons (pv 4) (pa_cons (pv 5) (pa_cons (pv 6) (pa_cons (pv 7) (pa_cons (pe_un un_neg pe_int) pa_nil)))))) (pa_cons (@pe_tup _ _ _ _ _ (pa_cons (pv 4) (pa_cons (pv 5) (pa_cons pe_bl (pa_cons (pv 7) (pa_cons (pv 8) pa_nil)))))) (pa_cons (@pe_lst _ _ _ _ (pa_cons (pv 4) (pa_cons (pv 5) (pa_cons (pv 6) (pa_cons (pv 7) (pa_cons (pv 8) pa_nil)))))) (pa_cons pe_non (pa_cons pe_int (pa_cons (@pe_tup _ _ _ _ _ (pa_cons (pv 4) (pa_cons pe_non (pa_cons (pv 6) (pa_cons (pv 7) (pa_cons (pv 8) pa_nil)))))) pa_nil)))))))) rfl (.inl rfl))
      (@pss_one _ _ _ (ps_ret (pe_op op_cat (pe_op op_cat (pe_slice sl_list (pv 0) po_none (po_some (pv 3))) (@pe_lst _ _ _ _ (pa_cons (pe_ix ix_list (pv 10) (pe_op op_mod (pe_op op_fdiv (pv 2) pe_int) pe_int) (fun _ _ => rfl)) pa_nil))) (pe_slice sl_list (pv 0) (po_some (pe_op op_add (pv 3) pe_int)) po_none)))))
      pss_nil)
    (@pss_one _ _ _ (ps_ret (@pe_ix _ _ _ _ _ _ _ ix_list (@pe_lst _ _ _ _ (@pa_cons _ _ _ _ _ pe_non (@pa_cons _ _ _ _ _ pe_bl (@pa_cons _ _ _ _ _ pe_int (@pa_cons _ _ _ _ _ pe_str (@pa_cons _ _ _ _ _ (@pe_tup _ _ _ _ _ pa_nil) (@pa_cons _ _ _ _ _ pe_dnewK pa_nil rfl) rfl) rfl) rfl) rfl) rfl)) (pe_op op_mod (pe_op op_fdiv (pv 2) pe_int) pe_int) (fun _ _ => rfl)))))))))))), ?_⟩
  try dsimp only [cxK]
  refine ⟨fun σ H' => H' = H ∧ σ = [some (.ref l), some (.int way), some (.int far), some (.int j), none, none, none, none, none, none, none], ⟨_, rfl, _, rfl, l, _, rfl, .inl (SqL.of BD.lst), _, _, rfl, rfl, lp, rfl, by rw [← ej]; rfl⟩, ?_⟩
  rintro σ1 H ⟨rfl, rfl⟩
  refine ⟨_, rfl, _, rfl, l, _, _, _, rfl, rfl, SqL.of BD.lst, atj, p, _, rfl, SqT.of p1, rfl, _, _, rfl, _, _, rfl, _, _, rfl, _, _, rfl, _, _, rfl, rfl, ?_⟩
  refine ⟨_, rfl, rfl, _, rfl, eqI (fun w0 => ?_) (fun w0 => ?_)⟩
  · refine ⟨fun σ H' => H' = H ∧ ∃ v9, σ = [some (.ref l), some (.int way), some (.int far), some (.int j), some (.int a), some (.int b), some (.int c'), some (.int d), some (.int hh), some (.int v9), none] ∧ v9 = (j : Int), ⟨_, rfl, _, rfl, l, _, rfl, .inl (SqL.of BD.lst), _, _, rfl, rfl, lp, rfl, _, rfl, ej⟩, ?_⟩
    rintro σ2 H ⟨rfl, _, rfl, rfl⟩
    refine ⟨fun σ H' => H' = H ∧ ∃ mm : Nat, mm < 64 ∧ mm ≤ 2 ^ c ∧ inV (.int (mm : Int)) LEN = false ∧ σ = [some (.ref l), some (.int way), some (.int far), some (.int j), some (.int a), some (.int b), some (.int c'), some (.int d), some (.int hh), some (.int (mm : Int)), none], ?_, ?_⟩
    · refine ⟨_, rfl, _, _, rfl, rfl, _, rfl, decI (fun j1 => ?_) (fun j1 => ?_)⟩
      · have ea : Builtin.bitAnd (j : Int) ((j : Int) - 1) = ((j &&& (j - 1) : Nat) : Int) := by rw [show (j : Int) - 1 = ((j - 1 : Nat) : Int) by omega, and_i]
        refine ⟨_, rfl, _, rfl, _, _, rfl, rfl, _, _, rfl, rfl, rfl, _, rfl, ?_⟩
        show if decide (V.int (Builtin.bitAnd (j : Int) ((j : Int) - 1)) = V.int 0) = true then _ else _
        rw [ea]
        refine decI (fun z => ?_) (fun z => ?_)
        · have z := V.int.inj z
          refine ⟨_, rfl, _, _, rfl, rfl, rfl, j - 1, by omega, by omega, few_a (by omega) (by omega) (by omega), ?_⟩
          rw [show ((j - 1 : Nat) : Int) = (j : Int) - 1 by omega]
          rfl
        · exact ⟨rfl, j, by omega, by omega, few_b (by omega) fun q => z (by rw [q.2]; rfl), rfl⟩
      · exact ⟨rfl, j, by omega, by omega, few_b (by omega) fun q => j1 (by omega), rfl⟩
    rintro σ3 H ⟨rfl, mm, m64, mc, ml, rfl⟩
    refine ⟨_, rfl, _, rfl, _, rfl, l, _, rfl, SqL.of BD.lst, fun r hr => ?_⟩
    rw [cut_to rfl]
    refine kq _ _ (same_new hr _) (.len upd_same ?_)
    rw [List.length_take, lps, Nat.min_eq_left mc]
    exact ml
  refine ⟨_, rfl, rfl, _, rfl, eqI (fun w1 => ?_) (fun w1 => ?_)⟩
  · exact ⟨t0, fun r hr => kq _ _ (same_new hr _) (.len upd_same (by decide))⟩
  refine ⟨_, rfl, rfl, _, rfl, eqI (fun w2 => ?_) (fun w2 => ?_)⟩
  · refine ⟨t5, fun t ht => ⟨s1l, fun lo hlo => ⟨_, rfl, l, _, rfl, .inl (SqL.of (same_new hlo _ _ _ (same_new ht _ _ _ BD.lst))), lo, _, _, rfl, rfl, upd_same, by rw [lps]; omega, by rw [lps]; omega, by rw [lps, Int.toNat_natCast]; exact Nat.le_trans (by simp; exact p6) (show 64 ≤ sizeLine by decide), fun l2 hl2 => ?_⟩⟩⟩
    have s2 := (same_new ht (tA ((0, 0, 0, 0), 0))).trans (same_new hlo (.lst [V.ref t]))
    refine kq _ _ (s2.trans (same_new hl2 _)) (.zero (ps := List.replicate (2 ^ c) t) (by rw [upd_same, lps, Int.toNat_natCast, rep_ref]) (by rw [List.length_replicate]; exact p6) fun i q hq => ?_)
    rw [List.getElem?_replicate] at hq
    split at hq
    · cases hq
      exact same_new hl2 _ _ _ (same_new hlo _ _ _ upd_same)
    · cases hq
  refine ⟨_, rfl, rfl, _, rfl, eqI (fun w3 => ?_) (fun w3 => ?_)⟩
  · exact ⟨_, rfl, l, _, rfl, .inl ⟨SqL.of BD.lst, fun t ht => kq _ _ (same_new ht _) (.odd (TyOf.tup upd_same) (kit_tl K))⟩⟩
  have fin : ∀ (v : V) (H2 : Hp) (r1 r2 : Addr) (V9 : L2.St) (Q1 : V → Hp → Prop), Same H H2 → Tel K H2 v false → H2 r1 = some (.lst ((ps.map V.ref).take j)) → H2 r2 = some (.lst [v]) → (∀ r H', Same H H' → NoBd K H' r → Q1 r H') →
      ∀ l3, H2 l3 = none → ∀ r4, upd H2 l3 (.lst ((ps.map V.ref).take j ++ [v])) r4 = none → ∀ l5, upd (upd H2 l3 (.lst ((ps.map V.ref).take j ++ [v]))) r4 (.lst ((ps.map V.ref).drop (j + 1))) l5 = none → Q1 (.ref l5) (upd (upd (upd H2 l3 (.lst ((ps.map V.ref).take j ++ [v]))) r4 (.lst ((ps.map V.ref).drop (j + 1)))) l5 (.lst ((ps.map V.ref).take j ++ [v] ++ (ps.map V.ref).drop (j + 1)))) := by
    intro v H2 r1 r2 _ Q1 S2 tv e1 e2 kQ l3 h3 r4 h4 l5 h5
    have S3 := (same_new h3 (.lst ((ps.map V.ref).take j ++ [v]))).trans ((same_new h4 (.lst ((ps.map V.ref).drop (j + 1)))).trans (same_new h5 (.lst ((ps.map V.ref).take j ++ [v] ++ (ps.map V.ref).drop (j + 1)))))
    exact kQ _ _ (S2.trans S3) (no_item (BD.same (S2.trans S3)) c6 hj upd_same (tv.same S3))
  have y1 : ∀ v : V, ((ps.map V.ref).take j).length + [v].length ≤ sizeLine := fun v => by
    rw [List.length_take, lps]
    exact Nat.le_trans (show min j (2 ^ c) + 1 ≤ 65 by omega) (by decide)
  have y2 : ∀ v : V, ((ps.map V.ref).take j ++ [v]).length + ((ps.map V.ref).drop (j + 1)).length ≤ sizeLine := fun v => by
    rw [List.length_append, List.length_take, List.length_drop, lps]
    exact Nat.le_trans (show min j (2 ^ c) + [v].length + (2 ^ c - (j + 1)) ≤ 200 by simp; omega) (by decide)
  have cd : ((j : Int) + 1) = ((j + 1 : Nat) : Int) := rfl
  refine ⟨_, rfl, rfl, _, rfl, eqI (fun w4 => ?_) (fun w4 => ?_)⟩
  · refine ⟨_, rfl, _, rfl, _, rfl, l, _, rfl, SqL.of BD.lst, fun r1 hr1 => ?_⟩
    rw [cut_to rfl]
    have s1 := same_new hr1 (.lst ((ps.map V.ref).take j))
    have e1 : upd H r1 (.lst ((ps.map V.ref).take j)) r1 = some (.lst ((ps.map V.ref).take j)) := upd_same
    generalize upd H r1 (.lst ((ps.map V.ref).take j)) = H1 at s1 e1 ⊢
    refine ⟨_, rfl, _, _, rfl, rfl, .inl ⟨by decide, by decide⟩, _, rfl, _, _, rfl, rfl, .inl ⟨by decide, by decide⟩, _, rfl, _, _, rfl, rfl, .inl ⟨by decide, by decide⟩, _, rfl, _, _, rfl, rfl, .inl ⟨by decide, by decide⟩, _, rfl, _, _, rfl, rfl, t5, fun t2 ht2 => ⟨s1l, fun r2 hr2 => ?_⟩⟩
    have s2 := (same_new ht2 (T5 (2 * a) (2 * b) (2 * c') (2 * d) (hh + 1))).trans (same_new hr2 (.lst [.ref t2]))
    have n2 : Tel K (upd (upd H1 t2 (T5 (2 * a) (2 * b) (2 * c') (2 * d) (hh + 1))) r2 (.lst [.ref t2])) (.ref t2) false := .no (same_new hr2 _ _ _ upd_same) fun y => by
      have := y.odd
      omega
    exact ⟨r1, r2, _, _, rfl, rfl, s2 _ _ e1, upd_same, y1 _, fun l3 h3 => ⟨_, rfl, _, rfl, _, _, rfl, rfl, _, rfl, l, _, rfl, SqL.of ((s1.trans (s2.trans (same_new h3 _))) _ _ BD.lst), fun r4 h4 => by
      rw [cut_from cd]
      exact ⟨l3, r4, _, _, rfl, rfl, same_new h4 _ _ _ upd_same, upd_same, y2 _, fun l5 h5 => fin _ _ r1 r2 [] _ (s1.trans s2) n2 (s2 _ _ e1) upd_same (fun r H' s' nb => kq r H' s' nb) l3 h3 r4 h4 l5 h5⟩⟩⟩
  refine ⟨_, rfl, rfl, _, rfl, eqI (fun w5 => ?_) (fun w5 => ?_)⟩
  · refine ⟨_, rfl, _, rfl, _, rfl, _, rfl, t4, fun a1 h1 => ?_⟩
    have s1 := same_new h1 (.tup [V.int a, V.int b, V.int c', V.int d])
    have e1 : upd H a1 (.tup [V.int a, V.int b, V.int c', V.int d]) a1 = some (.tup [V.int a, V.int b, V.int c', V.int d]) := upd_same
    generalize upd H a1 (.tup [V.int a, V.int b, V.int c', V.int d]) = H1 at s1 e1 ⊢
    refine ⟨_, rfl, _, rfl, _, rfl, _, rfl, _, rfl, t5, fun a2 h2 => ?_⟩
    have s2 := same_new h2 (.tup [V.int a, V.int b, V.int c', V.int d, V.int (-1)])
    have e2 : upd H1 a2 (.tup [V.int a, V.int b, V.int c', V.int d, V.int (-1)]) a2 = some (.tup [V.int a, V.int b, V.int c', V.int d, V.int (-1)]) := upd_same
    generalize upd H1 a2 (.tup [V.int a, V.int b, V.int c', V.int d, V.int (-1)]) = H2 at s2 e2 ⊢
    refine ⟨_, rfl, _, rfl, _, rfl, _, rfl, t5, fun a3 h3 => ?_⟩
    have s3 := same_new h3 (.tup [V.int a, V.int b, V.bl true, V.int d, V.int hh])
    have e3 : upd H2 a3 (.tup [V.int a, V.int b, V.bl true, V.int d, V.int hh]) a3 = some (.tup [V.int a, V.int b, V.bl true, V.int d, V.int hh]) := upd_same
    generalize upd H2 a3 (.tup [V.int a, V.int b, V.bl true, V.int d, V.int hh]) = H3 at s3 e3 ⊢
    refine ⟨_, rfl, _, rfl, _, rfl, _, rfl, _, rfl, t5, fun a4 h4 => ?_⟩
    have s4 := same_new h4 (.lst [V.int a, V.int b, V.int c', V.int d, V.int hh])
    have e4 : upd H3 a4 (.lst [V.int a, V.int b, V.int c', V.int d, V.int hh]) a4 = some (.lst [V.int a, V.int b, V.int c', V.int d, V.int hh]) := upd_same
    generalize upd H3 a4 (.lst [V.int a, V.int b, V.int c', V.int d, V.int hh]) = H4 at s4 e4 ⊢
    refine ⟨_, rfl, _, rfl, _, rfl, _, rfl, t5, fun a5 h5 => ?_⟩
    have s5 := same_new h5 (.tup [V.int a, V.non, V.int c', V.int d, V.int hh])
    have e5 : upd H4 a5 (.tup [V.int a, V.non, V.int c', V.int d, V.int hh]) a5 = some (.tup [V.int a, V.non, V.int c', V.int d, V.int hh]) := upd_same
    generalize upd H4 a5 (.tup [V.int a, V.non, V.int c', V.int d, V.int hh]) = H5 at s5 e5 ⊢
    refine ⟨t7, fun lo ho => ?_⟩
    have so := same_new ho (.lst [V.ref a1, V.ref a2, V.ref a3, V.ref a4, V.non, V.int 1, V.ref a5])
    have eo : upd H5 lo (.lst [V.ref a1, V.ref a2, V.ref a3, V.ref a4, V.non, V.int 1, V.ref a5]) lo = some (.lst [V.ref a1, V.ref a2, V.ref a3, V.ref a4, V.non, V.int 1, V.ref a5]) := upd_same
    generalize upd H5 lo (.lst [V.ref a1, V.ref a2, V.ref a3, V.ref a4, V.non, V.int 1, V.ref a5]) = H6 at so eo ⊢
    have S5 := s5.trans so
    have S4 := s4.trans S5
    have S3 := s3.trans S4
    have S2 := s2.trans S3
    have all : ∀ v ∈ [V.ref a1, V.ref a2, V.ref a3, V.ref a4, V.non, V.int 1, V.ref a5], Tel K H6 v false := fun v hv => by
      simp only [List.mem_cons, List.not_mem_nil, or_false] at hv
      rcases hv with rfl | rfl | rfl | rfl | rfl | rfl | rfl
      · exact .many (S2 _ _ e1) (by simp)
      · exact .no (S3 _ _ e2) fun y => absurd y.nn (by decide)
      · exact .part (S4 _ _ e3) rfl (by simp [flatV]) (by simp [isI])
      · exact .lst (S5 _ _ e4)
      · exact .flat rfl
      · exact .flat rfl
      · exact .part (so _ _ e5) rfl (by simp [flatV]) (by simp [isI])
    obtain ⟨i, hi⟩ : ∃ i, far / 64 % 7 = i := ⟨_, rfl⟩
    have i7 : i < 7 := by omega
    generalize hx : [V.ref a1, V.ref a2, V.ref a3, V.ref a4, V.non, V.int 1, V.ref a5] = xs at all eo
    have lx : xs.length = 7 := by rw [← hx]; rfl
    have ix : xs[i]? = some (xs[i]'(by omega)) := List.getElem?_eq_getElem (by omega)
    have tv := all _ (List.getElem_mem (show i < xs.length by omega))
    generalize xs[i]'(by omega) = v at ix tv
    have sH := (s1.trans s2).trans S3
    refine ⟨_, rfl, _, rfl, _, rfl, l, _, rfl, SqL.of (sH _ _ BD.lst), fun r1 hr1 => ?_⟩
    rw [cut_to rfl]
    have q1 := same_new hr1 (.lst ((ps.map V.ref).take j))
    have g1 : upd H6 r1 (.lst ((ps.map V.ref).take j)) r1 = some (.lst ((ps.map V.ref).take j)) := upd_same
    generalize upd H6 r1 (.lst ((ps.map V.ref).take j)) = H7 at q1 g1 ⊢
    have far0 : (far : Int) / 64 % 7 = (i : Int) := by omega
    refine ⟨_, rfl, _, rfl, _, _, rfl, rfl, ⟨by decide, by decide⟩, _, _, rfl, rfl, p_7, lo, _, _, v, rfl, rfl, SqL.of (q1 _ _ eo), (by rw [far0]; exact L2.atI_nat ix), s1l, fun r2 hr2 => ?_⟩
    have q2 := same_new hr2 (.lst [v])
    have n2 : Tel K (upd H7 r2 (.lst [v])) v false := (tv.same q1).same q2
    exact ⟨r1, r2, _, _, rfl, rfl, q2 _ _ g1, upd_same, y1 _, fun l3 h3 => ⟨_, rfl, _, rfl, _, _, rfl, rfl, _, rfl, l, _, rfl, SqL.of ((sH.trans (q1.trans (q2.trans (same_new h3 _)))) _ _ BD.lst), fun r4 h4 => by
      rw [cut_from cd]
      exact ⟨l3, r4, _, _, rfl, rfl, same_new h4 _ _ _ upd_same, upd_same, y2 _, fun l5 h5 => fin _ _ r1 r2 [] _ (sH.trans (q1.trans q2)) n2 (q2 _ _ g1) upd_same (fun r H' s' nb => kq r H' s' nb) l3 h3 r4 h4 l5 h5⟩⟩⟩
  refine ⟨t0, fun a1 h1 => ?_⟩
  have s1 := same_new h1 (.tup [])
  have e1 : upd H a1 (.tup []) a1 = some (.tup []) := upd_same
  generalize upd H a1 (.tup []) = H1 at s1 e1 ⊢
  refine fun a2 h2 => ?_
  have s2 := same_new h2 (.dK [])
  have e2 : upd H1 a2 (.dK []) a2 = some (.dK []) := upd_same
  generalize upd H1 a2 (.dK []) = H2 at s2 e2 ⊢
  refine ⟨t6, fun lo ho => ?_⟩
  have so := same_new ho (.lst [V.non, V.bl true, V.int 2, V.str "", V.ref a1, V.ref a2])
  have eo : upd H2 lo (.lst [V.non, V.bl true, V.int 2, V.str "", V.ref a1, V.ref a2]) lo = some (.lst [V.non, V.bl true, V.int 2, V.str "", V.ref a1, V.ref a2]) := upd_same
  generalize upd H2 lo (.lst [V.non, V.bl true, V.int 2, V.str "", V.ref a1, V.ref a2]) = H3 at so eo ⊢
  have all : ∀ v ∈ [V.non, V.bl true, V.int 2, V.str "", V.ref a1, V.ref a2], NoBd K H3 v := fun v hv => by
    simp only [List.mem_cons, List.not_mem_nil, or_false] at hv
    rcases hv with rfl | rfl | rfl | rfl | rfl | rfl
    · exact .odd .non (kit_nl K)
    · exact .odd (.bl _) (kit_bol K)
    · exact .odd (.int _) (kit_il K)
    · exact .odd (.str _) (kit_sl K)
    · exact .odd (.tup ((s2.trans so) _ _ e1)) (kit_tl K)
    · exact .odd (.dK (so _ _ e2)) (kit_dl K)
  obtain ⟨i, hi⟩ : ∃ i, far / 64 % 6 = i := ⟨_, rfl⟩
  have i6 : i < 6 := by omega
  generalize hx : [V.non, V.bl true, V.int 2, V.str "", V.ref a1, V.ref a2] = xs at all eo
  have lx : xs.length = 6 := by rw [← hx]; rfl
  have ix : xs[i]? = some (xs[i]'(by omega)) := List.getElem?_eq_getElem (by omega)
  have tv := all _ (List.getElem_mem (show i < xs.length by omega))
  generalize xs[i]'(by omega) = v at ix tv
  have far0 : (far : Int) / 64 % 6 = (i : Int) := by omega
  exact ⟨_, rfl, _, _, rfl, rfl, ⟨by decide, by decide⟩, _, _, rfl, rfl, p_6, lo, _, _, v, rfl, rfl, SqL.of eo, (by rw [far0]; exact L2.atI_nat ix), kq v H3 ((s1.trans s2).trans so) tv⟩
end
end K25

set_option maxHeartbeats 4000000
namespace K25
open PySem PySem.Spec PyProof.Rows L2 Am Pc Ba K14 K15n Hw
open Pt hiding kit_tt
theorem p_9 : (0 : Int) < 9 := by decide
theorem p_12 : (0 : Int) < 12 := by decide
theorem p30 : (0 : Int) < 10 ^ (30 : Int).toNat := by decide
theorem cp30 : CPow 10 30 := ⟨by decide, by decide, by decide⟩
def Odd (K : PySem.W.Frag) (H : Hp) (v : V) : Prop := Part K H v ∧ isI v = false
theorem Odd.beg {K : PySem.W.Frag} {H : Hp} {v : V} (o : Odd K H v) (i : Int) : NoBeg K H v (.int i) := ⟨o.1, Part.int _, .inl fun n _ _ e => by rw [e] at o; cases o.2⟩
theorem Odd.word {K : PySem.W.Frag} {H : Hp} {v : V} {c : Nat} (o : Odd K H v) (c1 : 1 ≤ c) (c6 : c ≤ 6) : NoBeg K H (.int c) v := ⟨Part.int _, o.1, .inr ⟨c, c1, c6, rfl, by
  cases v with
  | int i => cases o.2
  | _ => rfl⟩⟩
theorem int_beg {K : PySem.W.Frag} {H : Hp} {i : Int} (h : i < 1 ∨ 6 < i) (j : Int) : NoBeg K H (.int i) (.int j) := ⟨Part.int _, Part.int _, .inl fun n n1 n6 e => by have := V.int.inj e; omega⟩
theorem int_word {K : PySem.W.Frag} {H : Hp} {c : Nat} {j : Int} (c1 : 1 ≤ c) (c6 : c ≤ 6) (h : j < 0 ∨ ((2 ^ c : Nat) : Int) ≤ j) : NoBeg K H (.int c) (.int j) := ⟨Part.int _, Part.int _, .inr ⟨c, c1, c6, rfl, decide_eq_false fun z => by omega⟩⟩
section
variable {P : Program} {w : World} {K : PySem.W.Frag} {mg : Str → Option Value} {base : Heap} {k : Nat} {h : Heap}
theorem sc_badst : FnScope ["_law_cells", "_law_cell", "_law_far", "_law_odd", "_law_some"] ["_law_cells", "_law_cell"] (defScope (top 56)) := ⟨rfl, rfl, rfl, by decide +kernel, rfl, by decide +kernel, by decide +kernel⟩
theorem ok_badst (F : FunAt K "_law_bad_start" (top 56) .none) (X : K.In h) (G : h.Ns mainGlobals mg) (B : Bs mg) : Cal P w K mg base (k + 1) "_law_bad_start" ["_law_cells", "_law_cell"] (spBadStart K) := by
  have nd := sc_badst.nd
  refine F.cal X G sc_badst (bnd2 fun _ _ _ _ _ _ _ _ => rfl) (fun vs H Q E h => ?_) (fun fa cdv A outer s H vs Q E hr h => ?_)
  · obtain ⟨c, z, rfl, _⟩ := h; rfl
  obtain ⟨c, z, rfl, c1, c6, kq⟩ := h
  have eN : (1 : Int) * 2 ^ ((c : Int).toNat) = ((2 ^ c : Nat) : Int) := ipow c
  refine ⟨_, (@pss_cut _ _ _ _ _ (@ps_set _ _ 2 _ _ _ _ nd rfl (Or.inl rfl) (pe_op op_mod (pe_op op_fdiv (pv 1) pe_int) (pe_op op_pow pe_int pe_int)) rfl (.inl rfl))
    (@pss_cons _ _ _ _ _ (@ps_set _ _ 3 _ _ _ _ nd rfl (Or.inl rfl) (@pe_lst _ _ _ _ (pa_cons pe_bl (pa_cons pe_bl (pa_cons pe_non (pa_cons pe_str (pa_cons (@pe_tup _ _ _ _ _ (pa_cons pe_int pa_nil)) (pa_cons (@pe_lst _ _ _ _ (pa_cons pe_int pa_nil)) pa_nil))))))) rfl (.inl rfl))
    (@pss_cons _ _ _ _ _ (@ps_set _ _ 4 _ _ _ _ nd rfl (Or.inl rfl) (@pe_lst _ _ _ _ (pa_cons (@pe_tup _ _ _ _ _ (pa_cons pe_int (pa_cons pe_int pa_nil))) (pa_cons (@pe_tup _ _ _ _ _ (pa_cons (pe_op op_add pe_int (pe_op op_mod (pv 2) pe_int)) (pa_cons pe_int pa_nil))) (pa_cons (@pe_tup _ _ _ _ _ (pa_cons (pe_op op_sub (pe_un un_neg pe_int) (pv 2)) (pa_cons pe_int pa_nil))) (pa_cons (@pe_tup _ _ _ _ _ (pa_cons (pe_ix ix_list (pv 3) (pe_op op_mod (pv 2) pe_int) (fun _ _ => rfl)) (pa_cons pe_int pa_nil))) (pa_cons (@pe_tup _ _ _ _ _ (pa_cons (pv 0) (pa_cons (pe_op op_add (pe_op op_shlS pe_int (pv 0)) (pv 2)) pa_nil))) pa_nil)))))) rfl (.inl rfl))
    (@pss_cons _ _ _ _ _ (@ps_set _ _ 4 _ _ _ _ nd rfl (Or.inl rfl) (pe_op op_cat (pv 4) (@pe_lst _ _ _ _ (pa_cons (@pe_tup _ _ _ _ _ (pa_cons (pv 0) (pa_cons (pe_op op_sub (pe_un un_neg pe_int) (pv 2)) pa_nil))) (pa_cons (@pe_tup _ _ _ _ _ (pa_cons (pv 0) (pa_cons (pe_ix ix_list (pv 3) (pe_op op_mod (pv 2) pe_int) (fun _ _ => rfl)) pa_nil))) pa_nil)))) rfl (.inl rfl))
    (@pss_one _ _ _ (ps_ret (pe_ix ix_list (pv 4) (pe_op op_mod (pe_op op_mod (pv 1) pe_int) pe_int) (fun _ _ => rfl)))))))), ?_⟩
  try dsimp only [cxK]
  refine ⟨fun σ H' => H' = H ∧ ∃ far : Nat, σ = [some (.int c), some (.int z), some (.int far), none, none], ?_, ?_⟩
  · obtain ⟨far, ef⟩ : ∃ far : Nat, z / 12 % 10 ^ (30 : Int).toNat = far := ⟨(z / 12 % 10 ^ (30 : Int).toNat).toNat, by have := Int.emod_nonneg (z / 12) (Int.ne_of_gt p30); omega⟩
    refine ⟨_, rfl, _, _, rfl, rfl, ⟨by decide, by decide⟩, _, _, rfl, rfl, cp30, _, _, rfl, rfl, p30, rfl, far, ?_⟩
    rw [← ef]
    rfl
  rintro σ1 H ⟨rfl, far, rfl⟩
  refine ⟨s1l, fun a1 h1 => ?_⟩
  have s1 := same_new h1 (.tup [V.int 1])
  have e1 : upd H a1 (.tup [V.int 1]) a1 = some (.tup [V.int 1]) := upd_same
  generalize upd H a1 (.tup [V.int 1]) = H1 at s1 e1 ⊢
  refine ⟨s1l, fun a2 h2 => ?_⟩
  have s2 := same_new h2 (.lst [V.int 1])
  have e2 : upd H1 a2 (.lst [V.int 1]) a2 = some (.lst [V.int 1]) := upd_same
  generalize upd H1 a2 (.lst [V.int 1]) = H2 at s2 e2 ⊢
  refine ⟨t6, fun lo ho => ?_⟩
  have so := same_new ho (.lst [V.bl true, V.bl false, V.non, V.str "1", V.ref a1, V.ref a2])
  have eo : upd H2 lo (.lst [V.bl true, V.bl false, V.non, V.str "1", V.ref a1, V.ref a2]) lo = some (.lst [V.bl true, V.bl false, V.non, V.str "1", V.ref a1, V.ref a2]) := upd_same
  generalize upd H2 lo (.lst [V.bl true, V.bl false, V.non, V.str "1", V.ref a1, V.ref a2]) = H3 at so eo ⊢
  have all : ∀ H', Same H3 H' → ∀ v ∈ [V.bl true, V.bl false, V.non, V.str "1", V.ref a1, V.ref a2], Odd K H' v := fun H' S' v hv => by
    simp only [List.mem_cons, List.not_mem_nil, or_false] at hv
    rcases hv with rfl | rfl | rfl | rfl | rfl | rfl
    · exact ⟨Part.bl _, rfl⟩
    · exact ⟨Part.bl _, rfl⟩
    · exact ⟨Part.non, rfl⟩
    · exact ⟨Part.str _, rfl⟩
    · exact ⟨Part.tup (S' _ _ ((s2.trans so) _ _ e1)), rfl⟩
    · exact ⟨Part.lst (S' _ _ (so _ _ e2)), rfl⟩
  obtain ⟨i, hi⟩ : ∃ i, far % 6 = i := ⟨_, rfl⟩
  have i6 : i < 6 := by omega
  generalize hx : [V.bl true, V.bl false, V.non, V.str "1", V.ref a1, V.ref a2] = xs at all eo
  have lx : xs.length = 6 := by rw [← hx]; rfl
  have ix : xs[i]? = some (xs[i]'(by omega)) := List.getElem?_eq_getElem (by omega)
  have tv := fun H' S' => all H' S' _ (List.getElem_mem (show i < xs.length by omega))
  generalize xs[i]'(by omega) = v at ix tv
  have far0 : (far : Int) % 6 = (i : Int) := by omega
  have S03 := (s1.trans s2).trans so
  refine ⟨t2, fun b1 g1 => ?_⟩
  have r1 := same_new g1 (.tup [V.int 0, V.int 0])
  have f1 : upd H3 b1 (.tup [V.int 0, V.int 0]) b1 = some (.tup [V.int 0, V.int 0]) := upd_same
  generalize upd H3 b1 (.tup [V.int 0, V.int 0]) = G1 at r1 f1 ⊢
  refine ⟨_, rfl, _, _, rfl, rfl, p_9, _, _, rfl, rfl, t2, fun b2 g2 => ?_⟩
  have r2 := same_new g2 (.tup [V.int (7 + (far : Int) % 9), V.int 0])
  have f2 : upd G1 b2 (.tup [V.int (7 + (far : Int) % 9), V.int 0]) b2 = some (.tup [V.int (7 + (far : Int) % 9), V.int 0]) := upd_same
  generalize upd G1 b2 (.tup [V.int (7 + (far : Int) % 9), V.int 0]) = G2 at r2 f2 ⊢
  refine ⟨_, rfl, _, rfl, _, _, rfl, rfl, t2, fun b3 g3 => ?_⟩
  have r3 := same_new g3 (.tup [V.int (-1 - (far : Int)), V.int 0])
  have f3 : upd G2 b3 (.tup [V.int (-1 - (far : Int)), V.int 0]) b3 = some (.tup [V.int (-1 - (far : Int)), V.int 0]) := upd_same
  generalize upd G2 b3 (.tup [V.int (-1 - (far : Int)), V.int 0]) = G3 at r3 f3 ⊢
  refine ⟨_, rfl, _, rfl, _, _, rfl, rfl, p_6, lo, _, _, v, rfl, rfl, SqL.of ((r1.trans (r2.trans r3)) _ _ eo), (by rw [far0]; exact L2.atI_nat ix), t2, fun b4 g4 => ?_⟩
  have r4 := same_new g4 (.tup [v, V.int 0])
  have f4 : upd G3 b4 (.tup [v, V.int 0]) b4 = some (.tup [v, V.int 0]) := upd_same
  generalize upd G3 b4 (.tup [v, V.int 0]) = G4 at r4 f4 ⊢
  refine ⟨_, rfl, _, rfl, _, _, rfl, rfl, ⟨1, sz1, by omega, by omega⟩, _, rfl, _, _, rfl, rfl, t2, fun b5 g5 => ?_⟩
  have r5 := same_new g5 (.tup [V.int c, V.int (1 * 2 ^ ((c : Int).toNat) + far)])
  have f5 : upd G4 b5 (.tup [V.int c, V.int (1 * 2 ^ ((c : Int).toNat) + far)]) b5 = some (.tup [V.int c, V.int (1 * 2 ^ ((c : Int).toNat) + far)]) := upd_same
  generalize upd G4 b5 (.tup [V.int c, V.int (1 * 2 ^ ((c : Int).toNat) + far)]) = G5 at r5 f5 ⊢
  refine ⟨t5, fun m1 gm1 => ?_⟩
  have rm1 := same_new gm1 (.lst [V.ref b1, V.ref b2, V.ref b3, V.ref b4, V.ref b5])
  have em1 : upd G5 m1 (.lst [V.ref b1, V.ref b2, V.ref b3, V.ref b4, V.ref b5]) m1 = some (.lst [V.ref b1, V.ref b2, V.ref b3, V.ref b4, V.ref b5]) := upd_same
  generalize upd G5 m1 (.lst [V.ref b1, V.ref b2, V.ref b3, V.ref b4, V.ref b5]) = G6 at rm1 em1 ⊢
  refine ⟨_, rfl, _, rfl, _, rfl, _, rfl, _, _, rfl, rfl, t2, fun b6 g6 => ?_⟩
  have r6 := same_new g6 (.tup [V.int c, V.int (-1 - (far : Int))])
  have f6 : upd G6 b6 (.tup [V.int c, V.int (-1 - (far : Int))]) b6 = some (.tup [V.int c, V.int (-1 - (far : Int))]) := upd_same
  generalize upd G6 b6 (.tup [V.int c, V.int (-1 - (far : Int))]) = G7 at r6 f6 ⊢
  have R5 := r1.trans (r2.trans (r3.trans (r4.trans r5)))
  refine ⟨_, rfl, _, rfl, _, rfl, _, _, rfl, rfl, p_6, lo, _, _, v, rfl, rfl, SqL.of ((R5.trans (rm1.trans r6)) _ _ eo), (by rw [far0]; exact L2.atI_nat ix), t2, fun b7 g7 => ?_⟩
  have r7 := same_new g7 (.tup [V.int c, v])
  have f7 : upd G7 b7 (.tup [V.int c, v]) b7 = some (.tup [V.int c, v]) := upd_same
  generalize upd G7 b7 (.tup [V.int c, v]) = G8 at r7 f7 ⊢
  refine ⟨t2, fun m2 gm2 => ?_⟩
  have rm2 := same_new gm2 (.lst [V.ref b6, V.ref b7])
  have em2 : upd G8 m2 (.lst [V.ref b6, V.ref b7]) m2 = some (.lst [V.ref b6, V.ref b7]) := upd_same
  generalize upd G8 m2 (.lst [V.ref b6, V.ref b7]) = G9 at rm2 em2 ⊢
  refine ⟨m1, m2, _, _, rfl, rfl, (r6.trans (r7.trans rm2)) _ _ em1, em2, (show 7 ≤ sizeLine by decide), fun m3 gm3 => ?_⟩
  have rm3 := same_new gm3 (.lst ([V.ref b1, V.ref b2, V.ref b3, V.ref b4, V.ref b5] ++ [V.ref b6, V.ref b7]))
  have em3 : upd G9 m3 (.lst ([V.ref b1, V.ref b2, V.ref b3, V.ref b4, V.ref b5] ++ [V.ref b6, V.ref b7])) m3 = some (.lst ([V.ref b1, V.ref b2, V.ref b3, V.ref b4, V.ref b5] ++ [V.ref b6, V.ref b7])) := upd_same
  generalize upd G9 m3 (.lst ([V.ref b1, V.ref b2, V.ref b3, V.ref b4, V.ref b5] ++ [V.ref b6, V.ref b7])) = G10 at rm3 em3 ⊢
  have Z7 := rm2.trans rm3
  have Z6 := r7.trans Z7
  have Z5 := rm1.trans (r6.trans Z6)
  have Z4 := r5.trans Z5
  have Z3 := r4.trans Z4
  have Z2 := r3.trans Z3
  have Z1 := r2.trans Z2
  have Z0 := r1.trans Z1
  have ov := tv _ Z0
  have fin : ∀ u ∈ [V.ref b1, V.ref b2, V.ref b3, V.ref b4, V.ref b5] ++ [V.ref b6, V.ref b7], ∃ (p : Addr) (v1 v2 : V), u = .ref p ∧ G10 p = some (.tup [v1, v2]) ∧ NoBeg K G10 v1 v2 := fun u hu => by
    simp only [List.cons_append, List.nil_append, List.mem_cons, List.not_mem_nil, or_false] at hu
    rcases hu with rfl | rfl | rfl | rfl | rfl | rfl | rfl
    · exact ⟨_, _, _, rfl, Z1 _ _ f1, int_beg (.inl (by decide)) _⟩
    · exact ⟨_, _, _, rfl, Z2 _ _ f2, int_beg (.inr (by have := Int.emod_nonneg (far : Int) (show (9 : Int) ≠ 0 by decide); omega)) _⟩
    · exact ⟨_, _, _, rfl, Z3 _ _ f3, int_beg (.inl (by omega)) _⟩
    · exact ⟨_, _, _, rfl, Z4 _ _ f4, ov.beg _⟩
    · exact ⟨_, _, _, rfl, Z5 _ _ f5, int_word c1 c6 (.inr (by omega))⟩
    · exact ⟨_, _, _, rfl, Z6 _ _ f6, int_word c1 c6 (.inl (by omega))⟩
    · exact ⟨_, _, _, rfl, Z7 _ _ f7, ov.word c1 c6⟩
  obtain ⟨e, he⟩ : ∃ e : Nat, z % 12 % 7 = (e : Int) := ⟨(z % 12 % 7).toNat, by omega⟩
  have e7 : e < 7 := by omega
  generalize hy : [V.ref b1, V.ref b2, V.ref b3, V.ref b4, V.ref b5] ++ [V.ref b6, V.ref b7] = ys at fin em3
  have ly : ys.length = 7 := by rw [← hy]; rfl
  have iy : ys[e]? = some (ys[e]'(by omega)) := List.getElem?_eq_getElem (by omega)
  obtain ⟨p, v1, v2, ep, hp, nb⟩ := fin _ (List.getElem_mem (show e < ys.length by omega))
  rw [ep] at iy
  exact ⟨_, rfl, _, rfl, _, _, rfl, rfl, p_12, _, _, rfl, rfl, p_7, m3, _, _, _, rfl, rfl, SqL.of em3, (by rw [he]; exact L2.atI_nat iy), kq p v1 v2 G10 (S03.trans Z0) hp nb⟩
end
end K25

set_option maxHeartbeats 4000000
namespace L2
open PySem PySem.Spec PyProof.Rows
section
variable {X : Cx} {scope : Scope} {Nc : List Str} {ex : List Addr} {pins : List (Addr × Obj)} {s : Shared} {H : Hp}
theorem sl_tupC : SlR (cxLc X scope Nc ex pins s H) (rSlT X.K) := sl_tup
theorem call_list_ofC : CallR (cxLc X scope Nc ex pins s H) (.type "list") (fun xs H Q => ∃ p ys, xs = [.ref p] ∧ (SqL X.K H p ys ∨ SqT X.K H p ys) ∧ ∀ l, H l = none → Q (.ref l) (upd H l (.lst ys))) := call_list_of
end
end L2
namespace K25
open PySem PySem.Spec PyProof.Rows L2 Am Pc Ba K14 K15n Hw
open Pt hiding kit_tt
theorem bits_pow {c : Nat} (h : c ≤ 6) : Builtin.Int.intBits (((2 ^ c : Nat) : Int)) = c + 1 := by
  rcases (show c = 0 ∨ c = 1 ∨ c = 2 ∨ c = 3 ∨ c = 4 ∨ c = 5 ∨ c = 6 by omega) with rfl | rfl | rfl | rfl | rfl | rfl | rfl <;> decide
def spCellsOf (K : PySem.W.Frag) : Sp := fun vs H Q _ => ∃ (l : Addr) (xs : List V) (c : Nat), vs = [.ref l] ∧ SqL K H l xs ∧ xs.length = 2 ^ c ∧ c ≤ 6 ∧ Q (.int c) H
def spLaw (K : PySem.W.Frag) (n : Nat) : Sp := fun vs H Q _ => ∃ (a : Addr) (ns : List Int), vs = [.ref a] ∧ SqL K H a (ns.map V.int) ∧ ns.length ≤ n ∧ Light ns ∧ ∀ H', Q (.bl true) H'
theorem Bd.rows {H : Hp} {l : Addr} {ps : List Addr} {f : Nat → A5} {c n m : Nat} (b : Bd H l ps f c n m) : Rows5 H ps ((List.range ps.length).map fun i => l5 (f i)) := rows_of b.vals
theorem IsP.unique {x y z z' : A5} (p : IsP x y z) (q : IsP x y z') : z = z' := a5_ext (p.1.unique q.1 (p.2.symm.trans q.2))
theorem red_nz {x y : A5} {h : Int} (a : Am5 x) (r : Red x.1.1 x.1.2.1 x.1.2.2.1 x.1.2.2.2 h y.1.1 y.1.2.1 y.1.2.2.1 y.1.2.2.2 y.2) (n : x ≠ ((0, 0, 0, 0), 0)) : y ≠ ((0, 0, 0, 0), 0) := by
  intro e
  have s := r.same
  rw [e] at s
  have z : ∀ {t : Int}, Eq2 t h 0 0 → t = 0 := fun {t} q => by
    unfold Eq2 at q
    simpa [p2] using q
  have e1 := z s.e1
  have e2 := z s.e2
  have e3 := z s.e3
  have e4 := z s.e4
  have o := a.odd
  exact n (a5_ext ⟨e1, e2, e3, e4, by show x.2 = 0; omega⟩)
theorem ok_spin5 {n : Nat} {m : Int} {x : A5} {k : Int} (o : Ok5 n m x) : Ok5 n m (spin x k) := ok_rot (v := x.1) (h := x.2) o _
section
variable {P : Program} {w : World} {K : PySem.W.Frag} {mg : Str → Option Value} {base : Heap} {k : Nat} {h : Heap}
theorem sc_cellsof : FnScope ["board"] ["board"] (defScope (top 37)) := ⟨rfl, rfl, rfl, by decide +kernel, rfl, by decide +kernel, by decide +kernel⟩
theorem ok_cellsof (F : FunAt K "cells_of" (top 37) .none) (X : K.In h) (G : h.Ns mainGlobals mg) (B : Bs mg) : Cal P w K mg base (k + 1) "cells_of" ["board"] (spCellsOf K) := by
  have nd := sc_cellsof.nd
  refine F.cal X G sc_cellsof (bnd1 fun _ _ _ _ _ _ _ => rfl) (fun vs H Q E h => ?_) (fun f cdv A outer s H vs Q E hr h => ?_)
  · obtain ⟨l, xs, c, rfl, _⟩ := h; rfl
  obtain ⟨l, xs, c, rfl, hl, len, c6, q⟩ := h
  refine ⟨_, (@pss_one _ _ _ (ps_ret (pe_op op_sub (pe_bm0 PySem.F.plainAttrs_int PySem.F.slot_int_bit_length PySem.F.type_int_bit_length mt_bitlen (pe_callB call_len_seq rfl B.len PySem.boot_len (pa_cons (pv 0) pa_nil))) pe_int))), ?_⟩
  try dsimp only [cxK]
  refine ⟨_, rfl, l, _, rfl, .inl hl, rfl, _, rfl, rfl, _, _, rfl, rfl, ?_⟩
  show Q (.int (((Builtin.Int.intBits ((xs.length : Nat) : Int) : Nat) : Int) - 1)) H
  rw [len, bits_pow c6, show (((c + 1 : Nat) : Int) - 1) = (c : Int) by omega]
  exact q
theorem sc_law : FnScope ["_law_script", "_law_head", "_law_cells", "_law_one", "_law_board", "_law_kept", "_law_found", "_law_many", "_law_made", "_law_told", "_law_led", "_law_bad"] ["_law_script"] (defScope (top 61)) := ⟨rfl, rfl, rfl, by decide +kernel, rfl, by decide +kernel, by decide +kernel⟩
theorem ok_law {n : Nat} (hn : n ≤ 100000) {f : Addr} {fd : FuncData} (F : Fun K "law" "law" (top 61) f fd) (B : Bs mg) (c__law_cell_at : Cal P w K mg base k "_law_cell_at" ["_law_script", "_law_k"] (spCell K)) (c__law_cells_by : Cal P w K mg base k "_law_cells_by" ["_law_cell"] spCells) (c__law_begun : Cal P w K mg base k "_law_begun" ["_law_cells", "_law_word"] spBegun) (c__law_amount_by : Cal P w K mg base k "_law_amount_by" ["_law_cell"] spAmtBy)
    (c__law_board_by : Cal P w K mg base k "_law_board_by" ["_law_script", "_law_at", "_law_cells"] (spBoardByN K)) (c__law_low : Cal P w K mg base k "_law_low" ["_law_parts", "_law_h"] spLow) (c_board_of : Cal P w K mg base k "board_of" ["amounts"] spBoardOf) (c_cells_of : Cal P w K mg base k "cells_of" ["board"] (spCellsOf K)) (c__law_board_is : Cal P w K mg base k "_law_board_is" ["_law_found", "_law_due"] (spBoardIsK K)) (c__law_whole : Cal P w K mg base k "_law_whole" ["_law_found"] spWhole)
    (c_scaled : Cal P w K mg base k "scaled" ["board", "one"] spScaled) (c__law_times : Cal P w K mg base k "_law_times" ["_law_one", "_law_other"] spLTimes) (c_heft : Cal P w K mg base k "heft" ["board"] spHeft) (c_laid_on : Cal P w K mg base k "laid_on" ["board", "mark"] spLaid) (c__law_mark_by : Cal P w K mg base k "_law_mark_by" ["_law_cell", "_law_cells"] spMarkBy) (c__law_heft_is : Cal P w K mg base k "_law_heft_is" ["_law_found", "_law_board"] spHeftIs)
    (c__law_spoiled : Cal P w K mg base k "_law_spoiled" ["_law_board", "_law_way", "_law_cell"] (spSpoil K)) (c__law_refused : Cal P w K mg base k "_law_refused" ["_law_way", "_law_thing"] (spRefd K)) (c__law_bad_start : Cal P w K mg base k "_law_bad_start" ["_law_cells", "_law_cell"] (spBadStart K)) : FnOk P w K mg base CX0 (k + 1) f fd ["_law_script"] (spLaw K n) := by
  have nd := sc_law.nd
  refine F.ok sc_law (fun vs H Q E h => ?_) (fun cdv A outer s H vs Q E hr h => ?_)
  · obtain ⟨a, ns, rfl, _⟩ := h; rfl
  obtain ⟨sa, ns, rfl, hS, h63, lt, kk⟩ := h
  have sz : ∀ i, Sz 1048600 (cell ns i) := fun i => (cell_sz lt i).mono (by decide)
  refine ⟨_, (@pss_cons _ _ _ _ _ (@ps_set _ _ 1 _ _ _ _ nd rfl (Or.inl rfl) (pe_cal c__law_cell_at hr rfl (pa_cons (pv 0) (pa_cons pe_int pa_nil))) rfl (.inl rfl))
    (@pss_cons _ _ _ _ _ (@ps_set _ _ 2 _ _ _ _ nd rfl (Or.inl rfl) (pe_cal c__law_cells_by hr rfl (pa_cons (pv 1) pa_nil)) rfl (.inl rfl))
    (@pss_cons _ _ _ _ _ (ps_if (pt_not (pt_val (pe_cal c__law_begun hr rfl (pa_cons (pv 2) (pa_cons (pe_op op_mod (pe_cal c__law_cell_at hr rfl (pa_cons (pv 0) (pa_cons pe_int pa_nil))) (pe_op op_shlS pe_int (pv 2))) pa_nil)))))
      (@pss_one _ _ _ (ps_ret pe_bl))
      pss_nil)
    (@pss_cons _ _ _ _ _ (@ps_set _ _ 3 _ _ _ _ nd rfl (Or.inr rfl) (pe_cal c__law_amount_by hr rfl (pa_cons (pe_cal c__law_cell_at hr rfl (pa_cons (pv 0) (pa_cons pe_int pa_nil))) pa_nil)) rfl (.inl rfl))
    (@pss_cut _ _ _ _ _ (ps_if (pt_cmpR (op_eqTI hr.units) (pv 3) (@pe_tup _ _ _ _ _ (pa_cons pe_int (pa_cons pe_int (pa_cons pe_int (pa_cons pe_int (pa_cons pe_int pa_nil)))))) (nomark _))
      (@pss_one _ _ _ (@ps_set _ _ 3 _ _ _ _ nd rfl (Or.inr rfl) (@pe_tup _ _ _ _ _ (pa_cons pe_int (pa_cons pe_int (pa_cons pe_int (pa_cons pe_int (pa_cons pe_int pa_nil)))))) rfl (.inl rfl)))
      pss_nil)
    (@pss_cons _ _ _ _ _ (@ps_set _ _ 4 _ _ _ _ nd rfl (Or.inl rfl) (pe_cal c__law_board_by hr rfl (pa_cons (pv 0) (pa_cons pe_int (pa_cons (pv 2) pa_nil)))) rfl (.inl rfl))
    (@pss_cut _ _ _ _ _ (ps_if (pt_cmpR op_eq (pe_op op_mod (pe_op op_fdiv (pv 1) pe_int) pe_int) pe_int (nomark _))
      (@pss_one _ _ _ (ps_setLc (i := 4) rfl nd rfl rfl (LcOk.of (Nc := ["_law_part"]) (mp := [none]) (by kernel_rfl)) (pi_list (pv 4)) (fun _ _ _ _ => (pg_name (i := 0) (show (["_law_part"] : List Str).Nodup by decide +kernel) rfl (Or.inl rfl))) (fun _ _ _ _ => (pe_cal c__law_low hr rfl (pa_cons (pe_callTy call_list_ofC rfl B.list boot_list (pa_cons (pe_slice sl_tupC (pv 0) po_none (po_some pe_int)) pa_nil)) (pa_cons (pe_op op_add (pe_ix ix_tupC (pv 0) pe_int (fun _ _ => rfl)) pe_int) pa_nil)))) rfl))
      pss_nil)
    (@pss_cons _ _ _ _ _ (@ps_set _ _ 5 _ _ _ _ nd rfl (Or.inl rfl) (pe_callTy call_list_of rfl B.list boot_list (pa_cons (pv 4) pa_nil)) rfl (.inl rfl))
    (@pss_cons _ _ _ _ _ (@ps_set _ _ 6 _ _ _ _ nd rfl (Or.inl rfl) (pe_cal c_board_of hr rfl (pa_cons (pv 4) pa_nil)) rfl (.inl rfl))
    (@pss_cons _ _ _ _ _ (@ps_set _ _ 7 _ _ _ _ nd rfl (Or.inl rfl) (pe_cal c_cells_of hr rfl (pa_cons (pv 4) pa_nil)) rfl (.inl rfl))
    (@pss_cons _ _ _ _ _ (ps_if (PW.pt (pw_or (pt_not (pt_val (pe_cal c__law_board_is hr rfl (pa_cons (pv 6) (pa_cons (pv 5) pa_nil))))) (pw_or (pt_not (pt_val (pe_cal c__law_whole hr rfl (pa_cons (pv 7) pa_nil)))) (pw_or1 (pt_cmpR op_ne (pv 7) (pv 2) (nomark _))))))
      (@pss_one _ _ _ (ps_ret pe_bl))
      pss_nil)
    (@pss_cons _ _ _ _ _ (ps_expr (pe_bm PySem.F.plainAttrs_list PySem.F.slot_list_append PySem.F.type_list_append mt_append (pv 6) (pa_cons pe_int pa_nil)))
    (@pss_cons _ _ _ _ _ (@ps_set _ _ 8 _ _ _ _ nd rfl (Or.inl rfl) (pe_cal c_scaled hr rfl (pa_cons (pv 4) (pa_cons (pv 3) pa_nil))) rfl (.inl rfl))
    (@pss_cons _ _ _ _ _ (ps_if (pt_not (pt_val (pe_cal c__law_board_is hr rfl (pa_cons (pv 8) (pa_cons (pe_lc rfl (LcOk.of (Nc := ["_law_part", "_law_one"]) (mp := [none, some 3]) (by kernel_rfl)) (pi_list (pv 5)) (fun _ _ _ _ => (pg_name (i := 0) (show (["_law_part", "_law_one"] : List Str).Nodup by decide +kernel) rfl (Or.inl rfl))) (fun _ _ _ _ => (pe_cal c__law_times hr rfl (pa_cons (pv 0) (pa_cons (pv 1) pa_nil))))) pa_nil)))))
      (@pss_one _ _ _ (ps_ret pe_bl))
      pss_nil)
    (@pss_cons _ _ _ _ _ (ps_expr (pe_bm PySem.F.plainAttrs_list PySem.F.slot_list_append PySem.F.type_list_append mt_append (pv 8) (pa_cons pe_int pa_nil)))
    (@pss_cons _ _ _ _ _ (@ps_set _ _ 9 _ _ _ _ nd rfl (Or.inl rfl) (pe_cal c_heft hr rfl (pa_cons (pv 4) pa_nil)) rfl (.inl rfl))
    (@pss_cons _ _ _ _ _ (@ps_set _ _ 10 _ _ _ _ nd rfl (Or.inl rfl) (pe_cal c_laid_on hr rfl (pa_cons (pv 4) (pa_cons (pe_cal c__law_mark_by hr rfl (pa_cons (pe_cal c__law_cell_at hr rfl (pa_cons (pv 0) (pa_cons pe_int pa_nil))) (pa_cons (pv 2) pa_nil))) pa_nil))) rfl (.inl rfl))
    (@pss_cons _ _ _ _ _ (ps_if (PW.pt (pw_or (pt_not (pt_val (pe_cal c__law_heft_is hr rfl (pa_cons (pv 9) (pa_cons (pv 5) pa_nil))))) (pw_or (pt_cmpR (op_neTI hr.units) (pe_cal c_heft hr rfl (pa_cons (pv 10) pa_nil)) (pv 9) (nomark _)) (pw_or1 (pt_cmpR (op_neLT hr.units) (pv 4) (pv 5) (nomark _))))))
      (@pss_one _ _ _ (ps_ret pe_bl))
      pss_nil)
    (@pss_cut _ _ _ _ _ (@ps_set _ _ 11 _ _ _ _ nd rfl (Or.inl rfl) (pe_cal c__law_spoiled hr rfl (pa_cons (pv 5) (pa_cons (pe_op op_mod (pe_cal c__law_cell_at hr rfl (pa_cons (pv 0) (pa_cons pe_int pa_nil))) pe_int) (pa_cons (pe_op op_mod (pe_op op_fdiv (pe_cal c__law_cell_at hr rfl (pa_cons (pv 0) (pa_cons pe_int pa_nil))) pe_int) (pe_op op_pow pe_int pe_int)) pa_nil)))) rfl (.inl rfl))
    (@pss_cons _ _ _ _ _ (ps_if (pt_not (pt_val (pe_cal c__law_refused hr rfl (pa_cons pe_int (pa_cons (pv 11) pa_nil)))))
      (@pss_one _ _ _ (ps_ret pe_bl))
      pss_nil)
    (@pss_one _ _ _ (ps_ret (pe_cal c__law_refused hr rfl (pa_cons pe_int (pa_cons (pe_cal c__law_bad_start hr rfl (pa_cons (pv 2) (pa_cons (pe_cal c__law_cell_at hr rfl (pa_cons (pv 0) (pa_cons pe_int pa_nil))) pa_nil))) pa_nil))))))))))))))))))))))))), ?_⟩
  try dsimp only [cxK]
  refine ⟨_, rfl, sa, ns, 0, rfl, hS, by decide, ?_⟩
  refine ⟨_, rfl, _, rfl, fun c c1 c6 => ?_⟩
  have p6 := pow6 c6
  have hN : (1 : Int) * 2 ^ ((c : Int).toNat) = ((2 ^ c : Nat) : Int) := ipow c
  have N0 : (0 : Int) < 1 * 2 ^ ((c : Int).toNat) := by rw [hN]; have := Nat.two_pow_pos c; omega
  obtain ⟨x, xc, ex⟩ := mod_nat (cell ns 1) (Nat.two_pow_pos c)
  refine ⟨_, rfl, _, rfl, sa, ns, 1, rfl, hS, by decide, _, rfl, _, _, rfl, rfl, ⟨1, sz1, by omega, by omega⟩, _, _, rfl, rfl, N0, c, x, (by show [V.int (c : Nat), V.int (cell ns 1 % (1 * 2 ^ ((c : Int).toNat)))] = _; rw [hN, ex]), c1, c6, xc, fun H1 S1 => ⟨_, rfl, iteF ?_⟩⟩
  refine ⟨_, rfl, sa, ns, 2, rfl, S1.seq hS, by decide, _, rfl, sz 2, fun p H2 x2 S2 hp ox => ?_⟩
  have S02 := S1.trans S2
  refine ⟨fun σ H' => ∃ (p : Addr) (x : A5), Same H H' ∧ H' p = some (tA x) ∧ Ok5 100 (40 : Nat) x ∧ σ = [some (.ref sa), some (.int (cell ns 0)), some (.int (c : Nat)), some (.ref p), none, none, none, none, none, none, none, none], ?_, ?_⟩
  · refine ⟨_, rfl, t5, fun t ht => ?_⟩
    have s2 := same_new ht (tA ((0, 0, 0, 0), 0))
    refine ⟨p, t, l5 x2, [0, 0, 0, 0, 0], rfl, rfl, SqT.of (s2 _ _ hp), SqT.of upd_same, _, rfl, decI (fun _ => ?_) (fun z => ?_)⟩
    · exact ⟨t5, fun u hu => ⟨u, ((3, 0, 0, 0), 0), (S02.trans s2).trans (same_new hu _), upd_same, ok_3, rfl⟩⟩
    · exact ⟨p, x2, S02.trans s2, s2 _ _ hp, ox, rfl⟩
  clear hp ox S2 S02 S1
  rintro σ1 H2 ⟨p, y, S2, hp, oy, rfl⟩
  refine ⟨_, rfl, _, rfl, sa, ns, 5, c, rfl, S2.seq hS, lt, by decide, c1, c6, fun l1 H3 ps1 f1 S3 h3 len3 v3 ok3 nz3 => ?_⟩
  have BD1 : Bd H3 l1 ps1 f1 c 100 40 := ⟨h3, len3, v3, fun i _ => ok3 i⟩
  have HL1 : Hld f1 c := by obtain ⟨j, hj, nj⟩ := nz3; exact ⟨j, hj, fun e => nj (l5_0.mpr e)⟩
  have S03 := S2.trans S3
  refine ⟨fun σ H' => ∃ (l : Addr) (ps : List Addr) (g : Nat → A5), Same H3 H' ∧ Bd H' l ps g c 100 440 ∧ Hld g c ∧ σ = [some (.ref sa), some (.int (cell ns 0)), some (.int (c : Nat)), some (.ref p), some (.ref l), none, none, none, none, none, none, none], ?_, ?_⟩
  · refine ⟨_, rfl, _, _, rfl, rfl, ⟨by decide, by decide⟩, _, _, rfl, rfl, p_5, rfl, _, rfl, eqI (fun _ => ?_) (fun _ => ⟨l1, ps1, f1, Same.refl _, BD1.mono (by decide) (by decide), HL1, rfl⟩)⟩
    refine ⟨_, rfl, l1, rfl, ⟨_, SqL.of BD1.lst⟩, fun acc hacc => ?_⟩
    refine lc_board (K := K) (fr := []) (fun i z => Ok5 100 (440 : Nat) z ∧ (f1 i ≠ ((0, 0, 0, 0), 0) → z ≠ ((0, 0, 0, 0), 0))) BD1 c6 hacc (fun i pi H4 N e4 hi s4 kN => ?_) (fun H4 qs g s4 a4 ql v4 r4 => ?_)
    · have oi := BD1.ok i hi
      have SP : SqT K H4 pi ((l5 (f1 i)).map V.int) := SqT.of e4
      refine ⟨_, rfl, 4, rfl, pi, _, rfl, SP, cut54, fun t ht => ?_⟩
      have q1 := same_new ht (.tup ([(f1 i).1.1, (f1 i).1.2.1, (f1 i).1.2.2.1, (f1 i).1.2.2.2].map V.int))
      refine ⟨t, _, rfl, .inr (SqT.of upd_same), fun lq hq => ?_⟩
      have q2 := q1.trans (same_new hq (.lst ([(f1 i).1.1, (f1 i).1.2.1, (f1 i).1.2.2.1, (f1 i).1.2.2.2].map V.int)))
      have i0 : 0 ≤ (f1 i).2 := oi.amt.nn
      refine ⟨_, rfl, pi, _, _, _, rfl, rfl, q2.tup SP, rfl, _, _, rfl, rfl, lq, _, _, _, _, _, rfl, upd_same, (by show 0 ≤ (f1 i).2 + 400; omega), fun r H5 x' y' z' u' g' s5 e5 rd => ?_⟩
      refine kN r H5 ((x', y', z', u'), g') (q2.trans s5) e5 ⟨⟨rd.sz oi.sz, rd.amt, ?_⟩, fun nz => red_nz (x := f1 i) (y := ((x', y', z', u'), g')) oi.amt rd nz⟩
      have := rd.le
      have := oi.le
      show g' ≤ ((440 : Nat) : Int)
      omega
    · obtain ⟨j, hj, nj⟩ := HL1
      exact ⟨acc, qs, g, s4, ⟨a4, ql, v4, fun i hi => (r4 i hi).1⟩, ⟨j, hj, (r4 j hj).2 nj⟩, rfl⟩
  clear BD1 HL1 h3 len3 v3 ok3 nz3
  rintro σ2 H4 ⟨l, ps, g, S34, BD, HL, rfl⟩
  have S04 := S03.trans S34
  have hp4 := (S3.trans S34) _ _ hp
  refine ⟨_, rfl, l, _, rfl, .inl (SqL.of BD.lst), fun lk hlk => ?_⟩
  have sk := same_new hlk (.lst (ps.map V.ref))
  have ek : upd H4 lk (.lst (ps.map V.ref)) lk = some (.lst (ps.map V.ref)) := upd_same
  generalize upd H4 lk (.lst (ps.map V.ref)) = H5 at sk ek ⊢
  have BD5 := BD.same sk
  have BK5 : Bd H5 lk ps g c 100 440 := ⟨ek, BD5.len, BD5.vals, BD5.ok⟩
  refine ⟨_, rfl, l, ps, g, c, 100, 440, rfl, BD5, c1, c6, HL, fun r1 H6 n1 S6 e6 => ?_⟩
  have BD6 := BD5.same S6
  have BK6 := BK5.same S6
  have lps : (ps.map V.ref).length = 2 ^ c := by rw [List.length_map, BD.len]
  refine ⟨_, rfl, l, _, c, rfl, SqL.of BD6.lst, lps, c6, ?_⟩
  refine ⟨_, rfl, _, rfl, r1, lk, ps, ps, g, g, rfl, e6, BK6.lst, rfl, by rw [BD.len]; exact p6, ValsK.of BD6.vals, ValsK.of BD6.vals, fun _ _ => rfl, _, rfl, iteF ⟨_, rfl, _, rfl, _, rfl, iteF ⟨_, rfl, _, rfl, rfl, _, rfl, neI (fun z => absurd rfl z) (fun _ => ?_)⟩⟩⟩
  refine ⟨_, rfl, .inl ⟨rfl, _, SqL.of e6⟩, r1, _, _, rfl, rfl, e6, (by rw [lps]; exact Nat.lt_of_le_of_lt p6 (by decide)), ?_⟩
  have S7 := same_upd (o := .lst (ps.map V.ref ++ [.int 5])) S6 n1
  generalize upd H6 r1 (.lst (ps.map V.ref ++ [.int 5])) = H7 at S7 ⊢
  have BD7 := BD5.same S7
  have BK7 := BK5.same S7
  have hp7 := S7 _ _ (sk _ _ hp4)
  have oy' : Ok5 100 (440 : Nat) y := oy.mono (Nat.le_refl _) (by decide)
  refine ⟨_, rfl, _, rfl, l, p, ps, g, c, 100, 440, y, rfl, BD7, c6, by decide, by decide, hp7, oy', fun r2 H8 q2 g2 n2 S8 e8 ql2 v8 ip8 => ?_⟩
  have BK8 := BK7.same S8
  refine ⟨_, rfl, _, rfl, lk, rfl, ⟨_, SqL.of BK8.lst⟩, fun acc hacc => ?_⟩
  refine lc_board (K := K) (fr := [some (.ref p)]) (fun i z => IsP (g i) y z) BK8 c6 hacc (fun i pi H9 N e9 hi s9 kN => ?_) (fun H9 q3 g3 s9 a9 ql3 v9 ip9 => ?_)
  · exact ⟨_, rfl, _, rfl, pi, p, g i, y, 100, 440, rfl, e9, s9 _ _ (S8 _ _ hp7), BD.ok i hi, oy', by decide, fun r H10 z s10 e10 pz _ => kN r H10 z s10 e10 pz.isP⟩
  have S79 := S8.trans s9
  have e8' := s9 _ _ e8
  refine ⟨r2, acc, q2, q3, g2, g3, rfl, e8', a9, by rw [ql2, ql3], by rw [ql2]; exact p6, ValsK.of (v8.same s9), ValsK.of v9, fun i hi => (ip8 i (by omega)).unique (ip9 i (by omega)), _, rfl, iteF ?_⟩
  refine ⟨_, rfl, .inl ⟨rfl, _, SqL.of e8'⟩, r2, _, _, rfl, rfl, e8', (by rw [List.length_map, ql2]; exact Nat.lt_of_le_of_lt p6 (by decide)), ?_⟩
  have S10 := same_upd (o := .lst (q2.map V.ref ++ [.int 7])) S79 n2
  generalize upd H9 r2 (.lst (q2.map V.ref ++ [.int 7])) = H10 at S10 ⊢
  have BD10 := BD7.same S10
  refine ⟨_, rfl, l, ps, g, c, 100, 440, rfl, BD10, c6, by decide, by decide, fun rt H11 hx hy hz S11 e11 he zx zy zz => ?_⟩
  have S0 : Same H H11 := ((S04.trans sk).trans S7).trans (S10.trans S11)
  refine ⟨_, rfl, _, rfl, sa, ns, 3, rfl, S0.seq hS, by decide, _, rfl, _, c, rfl, c6, fun rm H12 mq mf ms S12 e12 q4 fl sl => ?_⟩
  have BD12 := BD10.same (S11.trans S12)
  refine ⟨l, ps, g, c, rm, mq, mf, ms, rfl, BD12.lst, BD12.vals, BD12.len, c6, e12, fl, fun rl H13 qs n13 S13 e13 ql13 v13 => ?_⟩
  have BD13 := BD12.same S13
  have BK13 := ((BK7.same S10).same (S11.trans S12)).same S13
  have BL13 : Bd H13 rl qs (fun v => spin (g (v ^^^ mf)) (2 * mq + 4 * pc ((v ^^^ mf) &&& ms))) c 100 440 := ⟨e13, ql13, v13, fun i hi => ok_spin5 (BD.ok _ (xor_lt hi fl))⟩
  have e11' := (S12.trans S13) _ _ e11
  refine ⟨_, rfl, _, rfl, rt, lk, hx, hy, hz, ps, g, c, 100, 440, rfl, e11', BK13, c6, by decide, by decide, he, zx, zy, zz, fun H14 S14 => ⟨_, rfl, iteF ?_⟩⟩
  refine ⟨_, rfl, rl, qs, _, c, 100, 440, rfl, BL13.same S14, c6, by decide, by decide, fun r5 H15 hx' hy' hz' S15 e15 he' _ _ _ => ?_⟩
  obtain ⟨u1, u2, u3⟩ := he'.unique he ⟨0, fun M _ => laid_heft fl M⟩
  subst u1 u2 u3
  have S1415 := S14.trans S15
  refine ⟨_, rfl, r5, rt, [hx', hy', hz'], [hx', hy', hz'], rfl, rfl, SqT.of e15, SqT.of (S1415 _ _ e11'), _, rfl, ?_⟩
  rw [decide_eq_true rfl]
  have BD15 := BD13.same S1415
  have BK15 := BK13.same S1415
  refine iteF ⟨_, rfl, _, rfl, l, lk, ps, ps, _, _, rfl, rfl, BD15.lst, BK15.lst, BD15.rows, BK15.rows, _, rfl, ?_⟩
  rw [decide_eq_true rfl]
  refine iteF ?_
  have S15' : Same H H15 := S0.trans ((S12.trans S13).trans S1415)
  refine ⟨fun σ H' => ∃ v, Same H15 H' ∧ NoBd K H' v ∧ σ = [some (.ref sa), some (.int (cell ns 0)), some (.int (c : Nat)), some (.ref p), some (.ref l), some (.ref lk), some (.ref r1), some (.int (c : Nat)), some (.ref r2), some (.ref rt), some (.ref rl), some v], ?_, ?_⟩
  · obtain ⟨way, w7, ew⟩ := mod_nat (cell ns 4) (show 0 < 7 by decide)
    obtain ⟨far, _, ef⟩ := mod_nat (cell ns 4 / 7) (show 0 < 10 ^ 9 by decide)
    refine ⟨_, rfl, _, rfl, sa, ns, 4, rfl, S15'.seq hS, by decide, _, _, rfl, rfl, p_7, _, rfl, sa, ns, 4, rfl, S15'.seq hS, by decide, _, _, rfl, rfl, ⟨by decide, by decide⟩, _, _, rfl, rfl, ⟨by decide, by decide, by decide⟩, _, _, rfl, rfl, (show (0 : Int) < 10 ^ (9 : Int).toNat by decide), lk, ps, g, c, way, far, ?_, BK15, c1, c6, w7, fun v H16 S16 nb => ⟨v, S16, nb, rfl⟩⟩
    show [V.ref lk, V.int (cell ns 4 % 7), V.int (cell ns 4 / 7 % 10 ^ (9 : Int).toNat)] = _
    rw [show cell ns 4 % 7 = (way : Int) from ew, show cell ns 4 / 7 % 10 ^ (9 : Int).toNat = (far : Int) from ef]
  rintro σ3 H16 ⟨v, S16, nb, rfl⟩
  refine ⟨_, rfl, .inl ⟨v, rfl, nb⟩, fun H17 S17 => ⟨_, rfl, iteF ?_⟩⟩
  have S17' := S15'.trans (S16.trans S17)
  refine ⟨_, rfl, _, rfl, sa, ns, 1, rfl, S17'.seq hS, by decide, c, _, rfl, c1, c6, fun pb v1 v2 H18 S18 e18 nb18 => ⟨.inr ⟨pb, v1, v2, rfl, e18, nb18⟩, fun H19 _ => kk H19⟩⟩
end
end K25

noncomputable section
namespace K25
open PySem PySem.Spec PyProof.Rows L2 Ba
theorem all_mk {l : PySem.W.OpenLaw} {w : World} {K : PySem.W.Frag} {h : Heap} {mg : Str → Option Value} {fa f : Addr} (X : K.In h) (G : h.Ns mainGlobals mg) (hfa : mg "law" = some (.ref fa))
    {od an : Option Addr} {sl : Array (Option Value)} {oc kV dc pm cd ct : Value} {aZ aO aQ Dd Ds C D A_NeverSo A_NoAmount A_NoMark A_NoCell A_NoMove A_NoShare A_NoTable A_NoText A_NotBorne A_Unguarded : Addr} {bm bm2 : List Value} {odZ odO odL odD odS : Option Addr} {slZ slO slL slD slS : Array (Option Value)} {ocD ocS : Value} {nZ nO nL nD nS : Nat} {o0 o1 o2 o3 o4 l0 l1 l2 l3 l4 l5 d0 e0 e1 tM : Tok} {y0 y1 y2 y3 y4 : Tok}
    (aL : PySem.W.nsIn K mainGlobals "law" = some (some (.ref f))) (lL : K.lookup f = some ⟨oc, od, .func (PySem.W.fnOf "law" "law" (defArgs (top 61)) (defBody (top 61)) (defScope (top 61)) .none kV dc pm an cd ct), sl⟩) (cL : PySem.W.codeIn K cd "law" = true) (kL : PySem.W.keepIn K (.ref f) = true)
    (t14 : FunAt K "is_whole" (top 14) .none)
    (t15 : FunAt K "share" (top 15) (.ref Ds))
    (t16 : FunAt K "common_divisor" (top 16) .none)
    (t18 : FunAt K "is_amount" (top 18) .none)
    (t19 : FunAt K "halved_out" (top 19) .none)
    (t20 : FunAt K "plus" (top 20) .none)
    (t21 : FunAt K "times" (top 21) .none)
    (t22 : FunAt K "spun" (top 22) .none)
    (t23 : FunAt K "spun_once" (top 23) .none)
    (t24 : FunAt K "mirror" (top 24) .none)
    (t25 : FunAt K "real_share" (top 25) .none)
    (t27 : FunAt K "ones" (top 27) .none)
    (t28 : FunAt K "is_word" (top 28) .none)
    (t34 : FunAt K "start" (top 34) (.ref Dd))
    (t35 : FunAt K "check_beginning" (top 35) .none)
    (t36 : FunAt K "board_of" (top 36) .none)
    (t37 : FunAt K "cells_of" (top 37) .none)
    (t38 : FunAt K "heft" (top 38) .none)
    (t39 : FunAt K "scaled" (top 39) .none)
    (t40 : FunAt K "laid_on" (top 40) .none)
    (t41 : FunAt K "spun_by_mark" (top 41) .none)
    (t43 : FunAt K "_law_cell_at" (top 43) .none)
    (t44 : FunAt K "_law_whole" (top 44) .none)
    (t45 : FunAt K "_law_cells_by" (top 45) .none)
    (t46 : FunAt K "_law_low" (top 46) .none)
    (t47 : FunAt K "_law_spin" (top 47) .none)
    (t48 : FunAt K "_law_amount_by" (top 48) .none)
    (t49 : FunAt K "_law_board_by" (top 49) .none)
    (t50 : FunAt K "_law_amount_is" (top 50) .none)
    (t51 : FunAt K "_law_board_is" (top 51) .none)
    (t52 : FunAt K "_law_mark_by" (top 52) .none)
    (t54 : FunAt K "_law_times" (top 54) .none)
    (t55 : FunAt K "_law_spoiled" (top 55) .none)
    (t56 : FunAt K "_law_bad_start" (top 56) .none)
    (t57 : FunAt K "_law_refused" (top 57) .none)
    (t58 : FunAt K "_law_divisor" (top 58) .none)
    (t59 : FunAt K "_law_heft_is" (top 59) .none)
    (t60 : FunAt K "_law_begun" (top 60) .none)
    (z0 : PySem.W.nsIn K mainGlobals "isinstance" = some none)
    (z1 : PySem.W.nsIn K mainGlobals "int" = some none)
    (z2 : PySem.W.nsIn K mainGlobals "bool" = some none)
    (z3 : PySem.W.nsIn K mainGlobals "tuple" = some none)
    (z4 : PySem.W.nsIn K mainGlobals "list" = some none)
    (z5 : PySem.W.nsIn K mainGlobals "len" = some none)
    (z6 : PySem.W.nsIn K mainGlobals "range" = some none)
    (z7 : PySem.W.nsIn K mainGlobals "all" = some none)
    (z8 : PySem.W.nsIn K mainGlobals "any" = some none)
    (z9 : PySem.W.nsIn K mainGlobals "max" = some none)
    (z10 : PySem.W.nsIn K mainGlobals "min" = some none)
    (z11 : PySem.W.nsIn K mainGlobals "zip" = some none)
    (z12 : PySem.W.nsIn K mainGlobals "set" = some none)
    (z13 : PySem.W.nsIn K mainGlobals "str" = some none)
    (z14 : PySem.W.nsIn K mainGlobals "enumerate" = some none)
    (z15 : PySem.W.nsIn K mainGlobals "reversed" = some none)
    (z16 : PySem.W.nsIn K mainGlobals "abs" = some none)
    (gM0 : PySem.W.nsIn K mainGlobals "MOST_CELLS" = some (some (.int 6 tM)))
    (tD : K.lookup Dd = some ⟨ocD, odD, .seq #[.int 0 d0] nD, slD⟩)
    (tS : K.lookup Ds = some ⟨ocS, odS, .seq #[.int 0 e0, .int 1 e1] nS, slS⟩)
    (gO0 : PySem.W.nsIn K mainGlobals "ONE" = some (some (.ref aO)))
    (tO : K.lookup aO = some ⟨.type "tuple", odO, .seq #[.int 1 o0, .int 0 o1, .int 0 o2, .int 0 o3, .int 0 o4] nO, slO⟩)
    (gL0 : PySem.W.nsIn K mainGlobals "LENGTHS" = some (some (.ref aQ)))
    (tL : K.lookup aQ = some ⟨.type "tuple", odL, .seq #[.int 2 l0, .int 4 l1, .int 8 l2, .int 16 l3, .int 32 l4, .int 64 l5] nL, slL⟩)
    (gZ0 : PySem.W.nsIn K mainGlobals "NOUGHT" = some (some (.ref aZ)))
    (tZ : K.lookup aZ = some ⟨.type "tuple", odZ, .seq #[.int 0 y0, .int 0 y1, .int 0 y2, .int 0 y3, .int 0 y4] nZ, slZ⟩)
    (aC : PySem.W.nsIn K mainGlobals "NoBoard" = some (some (.ref C)))
    (aD : PySem.W.nsIn K mainGlobals "BoardError" = some (some (.ref D)))
    (zV : PySem.W.nsIn K mainGlobals "ValueError" = some none)
    (xC : ExcAt K C bm)
    (xD : ExcAt K D bm2)
    (sub : (Value.ref C :: bm).contains (.ref D) = true)
    (kC : PySem.W.ExcG K C)
    (own : PySem.W.kitOne K (.ref C) (.ref C) = some true)
    (ve : PySem.W.kitOne K (.ref C) (.type "ValueError") = some true)
    (n_NeverSo : PySem.W.nsIn K mainGlobals "NeverSo" = some (some (.ref A_NeverSo)))
    (n_NoAmount : PySem.W.nsIn K mainGlobals "NoAmount" = some (some (.ref A_NoAmount)))
    (n_NoMark : PySem.W.nsIn K mainGlobals "NoMark" = some (some (.ref A_NoMark)))
    (n_NoCell : PySem.W.nsIn K mainGlobals "NoCell" = some (some (.ref A_NoCell)))
    (n_NoMove : PySem.W.nsIn K mainGlobals "NoMove" = some (some (.ref A_NoMove)))
    (n_NoShare : PySem.W.nsIn K mainGlobals "NoShare" = some (some (.ref A_NoShare)))
    (n_NoTable : PySem.W.nsIn K mainGlobals "NoTable" = some (some (.ref A_NoTable)))
    (n_NoText : PySem.W.nsIn K mainGlobals "NoText" = some (some (.ref A_NoText)))
    (n_NotBorne : PySem.W.nsIn K mainGlobals "NotBorne" = some (some (.ref A_NotBorne)))
    (n_Unguarded : PySem.W.nsIn K mainGlobals "Unguarded" = some (some (.ref A_Unguarded)))
    (k1 : PySem.W.kitAny K (.ref C) [.ref A_NeverSo, .ref A_NoAmount, .ref A_NoMark, .ref A_NoCell, .ref A_NoMove, .ref A_NoShare, .ref A_NoTable] = some false)
    (k2 : PySem.W.kitAny K (.ref C) [.ref A_NoText, .ref A_NotBorne, .ref A_Unguarded] = some false)
    : ∃ fd : FuncData, (∀ (s : Shared) (v : Value), BindsTo s fd ⟨[v], []⟩ [("_law_script", v)]) ∧ ∀ base : Heap, K.In base → base.Ns mainGlobals mg → FnOk l.prog w K mg base CX0 9 fa fd ["_law_script"] (spLaw K 63) := by
  have e := hfa.symm.trans (PySem.W.mg_of X G aL)
  cases e
  have F := fun_mk (st := top 61) lL cL kL
  have B : Bs mg := ⟨PySem.W.mg_none_of X G z0, PySem.W.mg_none_of X G z1, PySem.W.mg_none_of X G z2, PySem.W.mg_none_of X G z3, PySem.W.mg_none_of X G z4, PySem.W.mg_none_of X G z5, PySem.W.mg_none_of X G z6, PySem.W.mg_none_of X G z7, PySem.W.mg_none_of X G z8, PySem.W.mg_none_of X G z9, PySem.W.mg_none_of X G z10, PySem.W.mg_none_of X G z11, PySem.W.mg_none_of X G z12, PySem.W.mg_none_of X G z13, PySem.W.mg_none_of X G z14, PySem.W.mg_none_of X G z15, PySem.W.mg_none_of X G z16⟩
  refine ⟨PySem.W.fnOf "law" "law" (defArgs (top 61)) (defBody (top 61)) (defScope (top 61)) .none kV dc pm an cd ct, fun s v => .of_eq rfl, fun base _ _ => ?_⟩
  have gZ := PySem.W.mg_of X G gZ0
  have gO := PySem.W.mg_of X G gO0
  have gL := PySem.W.mg_of X G gL0
  have gM := PySem.W.mg_of X G gM0
  have kZ : ∀ H, SqT K H aZ ([0, 0, 0, 0, 0].map V.int) := fun H => .inr ⟨_, _, _, tZ, rfl, rfl, (show 5 ≤ sizeLine by decide), .cons ⟨_, rfl⟩ (.cons ⟨_, rfl⟩ (.cons ⟨_, rfl⟩ (.cons ⟨_, rfl⟩ (.cons ⟨_, rfl⟩ .nil))))⟩
  have kO : ∀ H, SqT K H aO ([1, 0, 0, 0, 0].map V.int) := fun H => .inr ⟨_, _, _, tO, rfl, rfl, (show 5 ≤ sizeLine by decide), .cons ⟨_, rfl⟩ (.cons ⟨_, rfl⟩ (.cons ⟨_, rfl⟩ (.cons ⟨_, rfl⟩ (.cons ⟨_, rfl⟩ .nil))))⟩
  have kL : ∀ H, SqT K H aQ LEN := fun H => .inr ⟨_, _, _, tL, rfl, rfl, (show 6 ≤ sizeLine by decide), .cons ⟨_, rfl⟩ (.cons ⟨_, rfl⟩ (.cons ⟨_, rfl⟩ (.cons ⟨_, rfl⟩ (.cons ⟨_, rfl⟩ (.cons ⟨_, rfl⟩ .nil)))))⟩
  have ex : Exs K mg C D bm bm2 := ⟨PySem.W.mg_of X G aC, PySem.W.mg_of X G aD, PySem.W.mg_none_of X G zV, xC, xD, sub, kC, own, ve, A_NeverSo, PySem.W.mg_of X G n_NeverSo, A_NoAmount, PySem.W.mg_of X G n_NoAmount, A_NoMark, PySem.W.mg_of X G n_NoMark, A_NoCell, PySem.W.mg_of X G n_NoCell, A_NoMove, PySem.W.mg_of X G n_NoMove, A_NoShare, PySem.W.mg_of X G n_NoShare, A_NoTable, PySem.W.mg_of X G n_NoTable, A_NoText, PySem.W.mg_of X G n_NoText, A_NotBorne, PySem.W.mg_of X G n_NotBorne, A_Unguarded, PySem.W.mg_of X G n_Unguarded, k1, k2⟩
  have c19 := ok_half (P := l.prog) (w := w) (base := base) (k := 0) t19 X G B
  have c23 := ok_once (P := l.prog) (w := w) (base := base) (k := 0) t23 X G
  have c21 := ok_times t21 X G B c19 c23
  have c20 := ok_plus t20 X G B c19
  have c22 := ok_spun t22 X G B c23
  have c24 := ok_mirror (P := l.prog) (w := w) (base := base) (k := 0) t24 X G
  have c14 := ok_iswhole (P := l.prog) (w := w) (base := base) (k := 0) t14 X G B
  have cw : Cal l.prog w K mg base 1 "is_whole" ["thing"] spWhole := c14.imp fun vs H Q E ⟨i, e, q⟩ => ⟨.int i, e, Pt.Part.int _, q⟩
  have c16 := ok_gcd (P := l.prog) (w := w) (base := base) (k := 0) t16 X G
  have c15 := ok_share t15 (binds_share tS) X G B cw c16
  have c25 := ok_real t25 X G c15
  have c38 := ok_heft (k := 3) gZ kZ t38 X G (c20.mono (by decide)) (c21.mono (by decide)) (c24.mono (by decide)) (c25.mono (by decide))
  have c39 := ok_scaled t39 X G c21
  have c27 := ok_ones (P := l.prog) (w := w) (base := base) (k := 0) t27 X G B
  have c41 := ok_smark (k := 2) t41 X G (c22.mono (by decide)) (c27.mono (by decide))
  have c40 := ok_laid t40 X G B c41
  have c18 := ok_isamt t18 X G B c14
  have c28 := ok_isword t28 X G c14
  have c35 := ok_begin gM t35 X G (c14.mono (by decide)) c28
  have c34 := ok_start tD t34 X G B gO gZ kO kZ c35
  have c36 := ok_boardof gL gZ kL kZ t36 X G B c18
  have x1 := okx_boardof gL gZ kL kZ t36 X G B ex c18
  have x2 := okx_begin gM t35 X G ex (c14.mono (by decide)) c28
  have x3 := okx_start t34 (binds_start tD) X G x2
  have c37 := ok_cellsof (P := l.prog) (w := w) (base := base) (k := 0) t37 X G B
  have c43 := ok_cell (P := l.prog) (w := w) (base := base) (k := 0) t43 X G B
  have c44 := ok_whole (P := l.prog) (w := w) (base := base) (k := 0) t44 X G B
  have c45 := ok_cells (P := l.prog) (w := w) (base := base) (k := 0) t45 X G
  have c46 := ok_low (P := l.prog) (w := w) (base := base) (k := 0) t46 X G B
  have c47 := ok_spin (P := l.prog) (w := w) (base := base) (k := 0) t47 X G B
  have c48 := ok_amtby t48 X G B c46 c47
  have c49 := ok_bdby t49 X G B (c43.mono (by decide)) c48
  have c54 := ok_ltimes t54 X G B c46
  have c50 := ok_amtis t50 X G B c44
  have c51 := ok_bdis t51 X G B c50
  have c52 := ok_markby (P := l.prog) (w := w) (base := base) (k := 0) t52 X G
  have c58 := ok_div (P := l.prog) (w := w) (base := base) (k := 0) t58 X G B
  have c59 := ok_heftis t59 X G B c44 c58
  have c60 := ok_begun (k := 4) t60 X G (c34.mono (by decide)) (c51.mono (by decide))
  have c55 := ok_spoil (P := l.prog) (w := w) (base := base) (k := 0) t55 X G B
  have c56 := ok_badst (P := l.prog) (w := w) (base := base) (k := 0) t56 X G B
  have c57 := ok_refused (k := 4) t57 X G B ex (x1.mono (by decide)) (x3.mono (by decide))
  exact ok_law (k := 8) (by decide) F B (c43.mono (by decide)) (c45.mono (by decide)) (c60.mono (by decide)) (c48.mono (by decide)) (c49.mono (by decide)) (c46.mono (by decide)) (c36.mono (by decide)) (c37.mono (by decide)) (c51.mono (by decide)) (c44.mono (by decide)) (c39.mono (by decide)) (c54.mono (by decide)) (c38.mono (by decide)) (c40.mono (by decide)) (c52.mono (by decide)) (c59.mono (by decide)) (c55.mono (by decide)) (c57.mono (by decide)) (c56.mono (by decide))
theorem walk {l : PySem.W.OpenLaw} {q : Program} {loose : List Str} {XP : (Str → Option Value) → Heap → Prop} {YP : World → Heap → Prop} {d : DefRec} {K : Params → PySem.W.Frag} (hn : l.most = some 63) (hdf : d.params.defaults = [])
    (hY : ∀ (w : World) (h : Heap), YP w h → (K w.params).In h)
    (F : ∀ (w : World) (mg : Str → Option Value) (fa : Addr) (h : Heap), (K w.params).In h → h.Ns mainGlobals mg → mg d.name = some (.ref fa) →
      ∃ fd : FuncData, (∀ (s : Shared) (u : Value), BindsTo s fd ⟨[u], []⟩ [("_law_script", u)]) ∧ ∀ base : Heap, (K w.params).In base → base.Ns mainGlobals mg → FnOk l.prog w (K w.params) mg base CX0 9 fa fd ["_law_script"] (spLaw (K w.params) 63)) :
    PySem.W.WalkO q loose XP YP l.row.toRowW d [] (fun f vs => PySem.call f vs) :=
  L2.walk_light (n := 63) (k := 9) (x := "_law_script") (CX := fun _ => CX0) (sp := fun w => spLaw (K w.params) 63) hn (by decide) hdf ⟨rfl, by decide, by decide⟩ hY F (fun _ _ a ns hl lt hS => ⟨a, ns, rfl, hS, hl, lt, fun _ => rfl⟩) fun _ _ _ _ _ z => z
/-! ### the top, run piece by piece: what stands in the heap behind each -/
namespace Hd
open PySem.W
set_option maxHeartbeats 0
abbrev pr : Program := PySem.Challenge.pw_spinboard_k25_boards_and_hefts
abbrev kh := PyData.keyHash
def dPos (s : Stmt) : Pos := match s with
  | .FunctionDef _ _ _ _ _ _ _ _ _ p => p
  | _ => ⟨0, 0, 0, 0⟩
def life : Life := (Life.mk [] [] [] 0 [] [] false #[] [] 0 false false false 0 [2000, 10, 10] false 0 true [] [] 0 false)
def en : Env := { scope := pr.main.scope, locals := mainNs, globals := mainNs, cells := [], code := (.ref 13), frame := some 14 }
def dn (P : Params) (x : Str) (t : Nat) (v : Value) : DictEntry := DictEntry.mk (kh P x) (.str x t) v
def cob (n : Str) (t1 : Nat) (q : Str) (t2 t3 : Nat) (i1 i2 i3 i4 i5 : Int) (r1 : Addr) (b : Bool) (i6 : Int) (r2 : Addr) (v1 v2 v3 : Value) (i7 i8 : Int) (t4 : Nat) : Obj := Obj.mk (.type "code") none (Data.fields #[.str n t1, .str q t2, .str "/claim/cut.py" t3, .int i1 0, .int i2 0, .int i3 0, .int i4 0, .int i5 0, .ref r1, .bool b, .int i6 0, .ref r2, .none, v1, v2, v3, .int i7 0, .int i8 0, .str "/claim/cut.py" t4]) #[]
def fo1 (n q : Str) (s : Stmt) (k j : Nat) : Obj := Obj.mk .none none (Data.func (FuncData.mk n q (defArgs s) (FuncBody.stmts (defBody s)) (defScope s) k [] .none .none .none .none none .none .none j)) #[]
def fo2 (n q : Str) (s : Stmt) (k : Nat) (m : Str) (t : Nat) (c : Addr) (j : Nat) : Obj := Obj.mk (.type "function") none (Data.func (FuncData.mk n q (defArgs s) (FuncBody.stmts (defBody s)) (defScope s) k [] .none .none .none (.str m t) none (.ref c) .none j)) #[]
def sq0 (T : String) (n : Nat) : Obj := Obj.mk (.type T) none (Data.seq #[] n) #[]
def nf0 : Obj := Obj.mk .none none (Data.fields #[]) #[]
abbrev Pz := Params
def o11_0(P:Pz):=(sq0 "tuple" 0)
def o12_0(P:Pz):=(nf0)
def o13_0(P:Pz):=(cob "<module>" 182 "<module>" 183 184 1 0 0 0 0 11 false 181 12 .none .none .none 185 1 186)
def o14_0(P:Pz):=(Obj.mk (.type "frame") none Data.plain #[(some (.ref 13)), (some (.ref 3)), (some (.ref 3)), none, (some (.str "__main__" 164)), none, (some (.ref 0))])
def Ha (P : Params) : Heap := Heap.mk (Array.mk [(boot_o_0 P), (boot_o_1 P), (boot_o_2 P), (boot_o_3 P), (boot_o_4 P), (boot_o_5 P), (boot_o_6 P), (boot_o_7 P), (boot_o_8 P), (boot_o_9 P), (boot_o_10 P), (o11_0 P), (o12_0 P), (o13_0 P), (o14_0 P)]) life
def T0 (P : Params) : BT := (.node (boot_o_0 P) (.node (boot_o_1 P) (.node (boot_o_3 P) (.node (boot_o_7 P) .nil .nil) (.node (o11_0 P) .nil .nil)) (.node (boot_o_5 P) (.node (boot_o_9 P) .nil .nil) (.node (o13_0 P) .nil .nil))) (.node (boot_o_2 P) (.node (boot_o_4 P) (.node (boot_o_8 P) .nil .nil) (.node (o12_0 P) .nil .nil)) (.node (boot_o_6 P) (.node (boot_o_10 P) .nil .nil) (.node (o14_0 P) .nil .nil))))
def l0 : List Stmt := [top 0, top 1]
def l1 : List Stmt := [top 2]
def l2 : List Stmt := [top 3]
def l3 : List Stmt := [top 4]
def l4 : List Stmt := [top 5]
def l5 : List Stmt := [top 6]
def l6 : List Stmt := [top 7]
def l7 : List Stmt := [top 8]
def l8 : List Stmt := [top 9]
def l9 : List Stmt := [top 10]
def l10 : List Stmt := [top 11]
def l11 : List Stmt := [top 12, top 13, top 14, top 15, top 16, top 17, top 18]
def l12 : List Stmt := [top 19, top 20, top 21, top 22, top 23, top 24, top 25, top 26, top 27, top 28, top 29, top 30, top 31, top 32, top 33, top 34, top 35]
def l13 : List Stmt := [top 36, top 37, top 38, top 39, top 40, top 41, top 42, top 43, top 44, top 45, top 46, top 47, top 48, top 49]
def l14 : List Stmt := [top 50, top 51, top 52, top 53, top 54, top 55, top 56, top 57, top 58, top 59, top 60, top 61]
def bE : List Stmt := l0 ++ (l1 ++ (l2 ++ (l3 ++ (l4 ++ (l5 ++ (l6 ++ (l7 ++ (l8 ++ (l9 ++ (l10 ++ (l11 ++ (l12 ++ (l13 ++ (l14 ++ []))))))))))))))
abbrev cE : Code := Code.body bE en
abbrev BB : List Frame := [topFrame (Pos.mk 0 0 0 0)]
theorem pre_ (w : World) (os : OsState) : topGo treeTable pr w 11 (some (.ref 6)) 12 (Shared.mk (boot_heap w.params) (Array.mk []) boot_drawn boot_toks os) (topStub pr) = some (Shared.mk (Ha w.params) (Array.mk []) (Drawn.mk 0 0 0 0) 187 os, Thread.mk (denote treeTable cE) cE (Pos.mk 0 0 0 0) BB) := by rw [PySem.W.Fast.te15667345088766844465, PySem.W.Fast.te11892475500146522536, PySem.W.Fast.te14364793385576792824]; kernel_rfl
theorem block_ (w : World) (os : OsState) : segRun treeTable pr w 11 (some (.ref 6)) 1 1 (Shared.mk (Ha w.params) (Array.mk []) (Drawn.mk 0 0 0 0) 187 os) (blockOf bE en cE (Pos.mk 0 0 0 0) BB) = some (Flow.next, (SharedT.mk (T0 w.params) 15 life (Array.mk []) (Drawn.mk 0 0 0 0) 187 os).abs, cE, (Pos.mk 0 0 0 0)) := by rw [PySem.W.Fast.te14374325043358763698, PySem.W.Fast.te14364793385576792824]; kernel_rfl
def o3_2(P:Pz):=(Obj.mk (.type "dict") none (Data.dict #[(dn P "__name__" 165 (.str "spinboard.errors" 187)), (dn P "__doc__" 166 .none), (dn P "__package__" 167 .none), (dn P "__loader__" 168 (.builtin "__main__.__loader__#opaque")), (dn P "__spec__" 169 .none), (dn P "__annotations__" 170 (.ref 6)), (dn P "__builtins__" 171 (.ref 4)), (dn P "__file__" 173 (.str "/claim/cut.py" 172)), (dn P "__cached__" 174 .none), (dn P "BoardError" 206 (.ref 24))] 10) #[])
def o12_2(P:Pz):=(Obj.mk .none none (Data.fields #[(.int 2 0), (.int 0 0), (.ref 20)]) #[])
def o15_2(P:Pz):=(Obj.mk (.type "tuple") none (Data.seq #[(.type "ValueError")] 0) #[])
def o16_2(P:Pz):=(Obj.mk (.type "builtin_function_or_method") none (Data.fields #[(.builtin "type.__prepare__"), (.type "type")]) #[])
def o17_2(P:Pz):=(Obj.mk (.type "dict") none (Data.dict #[(dn P "__module__" 196 (.str "spinboard.errors" 187)), (dn P "__qualname__" 198 (.str "BoardError" 197)), (dn P "__firstlineno__" 200 (.int 2 199)), (dn P "__static_attributes__" 201 (.ref 22))] 4) #[])
def o18_2(P:Pz):=(sq0 "tuple" 0)
def o19_2(P:Pz):=(nf0)
def o20_2(P:Pz):=(cob "BoardError" 191 "BoardError" 192 193 2 0 0 0 0 18 false 181 19 .none .none .none 194 2 195)
def o21_2(P:Pz):=(Obj.mk (.type "frame") none Data.plain #[(some (.ref 20)), (some (.ref 3)), (some (.ref 17)), none, (some (.str "spinboard.errors" 187)), none, (some (.ref 0))])
def o22_2(P:Pz):=(sq0 "tuple" 0)
def o23_2(P:Pz):=(Obj.mk (.type "dict") none (Data.dict #[(dn P "__module__" 196 (.str "spinboard.errors" 187)), (dn P "__firstlineno__" 200 (.int 2 199)), (dn P "__static_attributes__" 201 (.ref 22)), (dn P "__weakref__" 203 (.ref 25)), (dn P "__doc__" 204 .none)] 3) #[])
def o24_2(P:Pz):=(Obj.mk (.type "type") none (Data.cls (ClassData.mk "BoardError" [(.type "ValueError")] [(.ref 24), (.type "ValueError"), (.type "Exception"), (.type "BaseException"), (.type "object")] 23 "BoardError" true [] [] false none false)) #[(some (.ref 15)), none, (some (.str "BoardError" 189)), (some (.str "BoardError" 197)), (some (.builtin "ValueError.__new__")), (some (.bool true))])
def o25_2(P:Pz):=(Obj.mk (.type "getset_descriptor") none (Data.fields #[(.str "__weakref__" 202), (.ref 24), (.builtin "ExceptionGroup.__weakref__"), .none]) #[])
def o26_2(P:Pz):=(Obj.mk (.type "super") none (Data.fields #[(.ref 24), (.ref 24), (.ref 24)]) #[])
def o27_2(P:Pz):=(Obj.mk (.type "builtin_function_or_method") none (Data.fields #[(.builtin "object.__init_subclass__"), (.ref 24)]) #[])
def T1 (P : Params) : BT := ((((((((((((((((T0 P).ins 3 (o3_2 P)).ins 12 (o12_2 P)).ins 15 (o15_2 P)).ins 16 (o16_2 P)).ins 17 (o17_2 P)).ins 18 (o18_2 P)).ins 19 (o19_2 P)).ins 20 (o20_2 P)).ins 21 (o21_2 P)).ins 22 (o22_2 P)).ins 23 (o23_2 P)).ins 24 (o24_2 P)).ins 25 (o25_2 P)).ins 26 (o26_2 P)).ins 27 (o27_2 P))
theorem g0 (p : Program) (b : List Stmt) (w : World) (os : OsState) : segRunT treeTable p w 11 (some (.ref 6)) 1 196 (SharedT.mk (T0 w.params) 15 life (Array.mk []) (Drawn.mk 0 0 0 0) 187 os) (piecesOf l0 en (Code.body b en) (Pos.mk 0 0 0 0) BB) = some (Flow.next, (SharedT.mk (T1 w.params) 28 life (Array.mk []) (Drawn.mk 0 0 0 0) 207 os), Code.body b en, (Pos.mk 2 0 3 8)) := by rw [PySem.W.Fast.te10110043849684766642, PySem.W.Fast.te14364793385576792824]; kernel_rfl
def o3_3(P:Pz):=(Obj.mk (.type "dict") none (Data.dict #[(dn P "__name__" 165 (.str "spinboard.errors" 187)), (dn P "__doc__" 166 .none), (dn P "__package__" 167 .none), (dn P "__loader__" 168 (.builtin "__main__.__loader__#opaque")), (dn P "__spec__" 169 .none), (dn P "__annotations__" 170 (.ref 6)), (dn P "__builtins__" 171 (.ref 4)), (dn P "__file__" 173 (.str "/claim/cut.py" 172)), (dn P "__cached__" 174 .none), (dn P "BoardError" 206 (.ref 24)), (dn P "NoShare" 222 (.ref 37))] 11) #[])
def o12_3(P:Pz):=(Obj.mk .none none (Data.fields #[(.int 2 0), (.int 0 0), (.ref 20), (.int 4 0), (.int 0 0), (.ref 33)]) #[])
def o24_3(P:Pz):=(Obj.mk (.type "type") none (Data.cls (ClassData.mk "BoardError" [(.type "ValueError")] [(.ref 24), (.type "ValueError"), (.type "Exception"), (.type "BaseException"), (.type "object")] 23 "BoardError" true [] [(.ref 37)] false none false)) #[(some (.ref 15)), none, (some (.str "BoardError" 189)), (some (.str "BoardError" 197)), (some (.builtin "ValueError.__new__")), (some (.bool true))])
def o28_3(P:Pz):=(Obj.mk (.type "tuple") none (Data.seq #[(.ref 24)] 0) #[])
def o29_3(P:Pz):=(Obj.mk (.type "builtin_function_or_method") none (Data.fields #[(.builtin "type.__prepare__"), (.type "type")]) #[])
def o30_3(P:Pz):=(Obj.mk (.type "dict") none (Data.dict #[(dn P "__module__" 214 (.str "spinboard.errors" 187)), (dn P "__qualname__" 216 (.str "NoShare" 215)), (dn P "__firstlineno__" 218 (.int 4 217)), (dn P "__static_attributes__" 219 (.ref 35))] 4) #[])
def o31_3(P:Pz):=(sq0 "tuple" 0)
def o32_3(P:Pz):=(nf0)
def o33_3(P:Pz):=(cob "NoShare" 209 "NoShare" 210 211 4 0 0 0 0 31 false 181 32 .none .none .none 212 4 213)
def o34_3(P:Pz):=(Obj.mk (.type "frame") none Data.plain #[(some (.ref 33)), (some (.ref 3)), (some (.ref 30)), none, (some (.str "spinboard.errors" 187)), none, (some (.ref 0))])
def o35_3(P:Pz):=(sq0 "tuple" 0)
def o36_3(P:Pz):=(Obj.mk (.type "dict") none (Data.dict #[(dn P "__module__" 214 (.str "spinboard.errors" 187)), (dn P "__firstlineno__" 218 (.int 4 217)), (dn P "__static_attributes__" 219 (.ref 35)), (dn P "__doc__" 220 .none)] 2) #[])
def o37_3(P:Pz):=(Obj.mk (.type "type") none (Data.cls (ClassData.mk "NoShare" [(.ref 24)] [(.ref 37), (.ref 24), (.type "ValueError"), (.type "Exception"), (.type "BaseException"), (.type "object")] 36 "NoShare" true [] [] false none false)) #[(some (.ref 28)), none, (some (.str "NoShare" 207)), (some (.str "NoShare" 215)), (some (.builtin "ValueError.__new__")), (some (.bool true))])
def o38_3(P:Pz):=(Obj.mk (.type "super") none (Data.fields #[(.ref 37), (.ref 37), (.ref 37)]) #[])
def o39_3(P:Pz):=(Obj.mk (.type "builtin_function_or_method") none (Data.fields #[(.builtin "object.__init_subclass__"), (.ref 37)]) #[])
def T2 (P : Params) : BT := ((((((((((((((((T1 P).ins 3 (o3_3 P)).ins 12 (o12_3 P)).ins 24 (o24_3 P)).ins 28 (o28_3 P)).ins 29 (o29_3 P)).ins 30 (o30_3 P)).ins 31 (o31_3 P)).ins 32 (o32_3 P)).ins 33 (o33_3 P)).ins 34 (o34_3 P)).ins 35 (o35_3 P)).ins 36 (o36_3 P)).ins 37 (o37_3 P)).ins 38 (o38_3 P)).ins 39 (o39_3 P))
theorem g1 (p : Program) (b : List Stmt) (w : World) (os : OsState) : segRunT treeTable p w 11 (some (.ref 6)) 1 214 (SharedT.mk (T1 w.params) 28 life (Array.mk []) (Drawn.mk 0 0 0 0) 207 os) (piecesOf l1 en (Code.body b en) (Pos.mk 2 0 3 8) BB) = some (Flow.next, (SharedT.mk (T2 w.params) 40 life (Array.mk []) (Drawn.mk 0 0 0 0) 223 os), Code.body b en, (Pos.mk 4 0 5 8)) := by rw [PySem.W.Fast.te10110043849684766642, PySem.W.Fast.te14364793385576792824]; kernel_rfl
def o3_4(P:Pz):=(Obj.mk (.type "dict") none (Data.dict #[(dn P "__name__" 165 (.str "spinboard.errors" 187)), (dn P "__doc__" 166 .none), (dn P "__package__" 167 .none), (dn P "__loader__" 168 (.builtin "__main__.__loader__#opaque")), (dn P "__spec__" 169 .none), (dn P "__annotations__" 170 (.ref 6)), (dn P "__builtins__" 171 (.ref 4)), (dn P "__file__" 173 (.str "/claim/cut.py" 172)), (dn P "__cached__" 174 .none), (dn P "BoardError" 206 (.ref 24)), (dn P "NoShare" 222 (.ref 37)), (dn P "NoAmount" 238 (.ref 49))] 12) #[])
def o12_4(P:Pz):=(Obj.mk .none none (Data.fields #[(.int 2 0), (.int 0 0), (.ref 20), (.int 4 0), (.int 0 0), (.ref 33), (.int 6 0), (.int 0 0), (.ref 45)]) #[])
def o24_4(P:Pz):=(Obj.mk (.type "type") none (Data.cls (ClassData.mk "BoardError" [(.type "ValueError")] [(.ref 24), (.type "ValueError"), (.type "Exception"), (.type "BaseException"), (.type "object")] 23 "BoardError" true [] [(.ref 37), (.ref 49)] false none false)) #[(some (.ref 15)), none, (some (.str "BoardError" 189)), (some (.str "BoardError" 197)), (some (.builtin "ValueError.__new__")), (some (.bool true))])
def o40_4(P:Pz):=(Obj.mk (.type "tuple") none (Data.seq #[(.ref 24)] 0) #[])
def o41_4(P:Pz):=(Obj.mk (.type "builtin_function_or_method") none (Data.fields #[(.builtin "type.__prepare__"), (.type "type")]) #[])
def o42_4(P:Pz):=(Obj.mk (.type "dict") none (Data.dict #[(dn P "__module__" 230 (.str "spinboard.errors" 187)), (dn P "__qualname__" 232 (.str "NoAmount" 231)), (dn P "__firstlineno__" 234 (.int 6 233)), (dn P "__static_attributes__" 235 (.ref 47))] 4) #[])
def o43_4(P:Pz):=(sq0 "tuple" 0)
def o44_4(P:Pz):=(nf0)
def o45_4(P:Pz):=(cob "NoAmount" 225 "NoAmount" 226 227 6 0 0 0 0 43 false 181 44 .none .none .none 228 6 229)
def o46_4(P:Pz):=(Obj.mk (.type "frame") none Data.plain #[(some (.ref 45)), (some (.ref 3)), (some (.ref 42)), none, (some (.str "spinboard.errors" 187)), none, (some (.ref 0))])
def o47_4(P:Pz):=(sq0 "tuple" 0)
def o48_4(P:Pz):=(Obj.mk (.type "dict") none (Data.dict #[(dn P "__module__" 230 (.str "spinboard.errors" 187)), (dn P "__firstlineno__" 234 (.int 6 233)), (dn P "__static_attributes__" 235 (.ref 47)), (dn P "__doc__" 236 .none)] 2) #[])
def o49_4(P:Pz):=(Obj.mk (.type "type") none (Data.cls (ClassData.mk "NoAmount" [(.ref 24)] [(.ref 49), (.ref 24), (.type "ValueError"), (.type "Exception"), (.type "BaseException"), (.type "object")] 48 "NoAmount" true [] [] false none false)) #[(some (.ref 40)), none, (some (.str "NoAmount" 223)), (some (.str "NoAmount" 231)), (some (.builtin "ValueError.__new__")), (some (.bool true))])
def o50_4(P:Pz):=(Obj.mk (.type "super") none (Data.fields #[(.ref 49), (.ref 49), (.ref 49)]) #[])
def o51_4(P:Pz):=(Obj.mk (.type "builtin_function_or_method") none (Data.fields #[(.builtin "object.__init_subclass__"), (.ref 49)]) #[])
def T3 (P : Params) : BT := ((((((((((((((((T2 P).ins 3 (o3_4 P)).ins 12 (o12_4 P)).ins 24 (o24_4 P)).ins 40 (o40_4 P)).ins 41 (o41_4 P)).ins 42 (o42_4 P)).ins 43 (o43_4 P)).ins 44 (o44_4 P)).ins 45 (o45_4 P)).ins 46 (o46_4 P)).ins 47 (o47_4 P)).ins 48 (o48_4 P)).ins 49 (o49_4 P)).ins 50 (o50_4 P)).ins 51 (o51_4 P))
theorem g2 (p : Program) (b : List Stmt) (w : World) (os : OsState) : segRunT treeTable p w 11 (some (.ref 6)) 1 214 (SharedT.mk (T2 w.params) 40 life (Array.mk []) (Drawn.mk 0 0 0 0) 223 os) (piecesOf l2 en (Code.body b en) (Pos.mk 4 0 5 8) BB) = some (Flow.next, (SharedT.mk (T3 w.params) 52 life (Array.mk []) (Drawn.mk 0 0 0 0) 239 os), Code.body b en, (Pos.mk 6 0 7 8)) := by rw [PySem.W.Fast.te10110043849684766642, PySem.W.Fast.te14364793385576792824]; kernel_rfl
def o3_5(P:Pz):=Obj.mk (.type "dict") none (Data.dict #[(dn P "__name__" 165 (.str "spinboard.errors" 187)), (dn P "__doc__" 166 .none), (dn P "__package__" 167 .none), (dn P "__loader__" 168 (.builtin "__main__.__loader__#opaque")), (dn P "__spec__" 169 .none), (dn P "__annotations__" 170 (.ref 6)), (dn P "__builtins__" 171 (.ref 4)), (dn P "__file__" 173 (.str "/claim/cut.py" 172)), (dn P "__cached__" 174 .none), (dn P "BoardError" 206 (.ref 24)), (dn P "NoShare" 222 (.ref 37)), (dn P "NoAmount" 238 (.ref 49)), (dn P "NoMark" 254 (.ref 61))] 13) #[]
def o12_5(P:Pz):=(Obj.mk .none none (Data.fields #[(.int 2 0), (.int 0 0), (.ref 20), (.int 4 0), (.int 0 0), (.ref 33), (.int 6 0), (.int 0 0), (.ref 45), (.int 8 0), (.int 0 0), (.ref 57)]) #[])
def o24_5(P:Pz):=(Obj.mk (.type "type") none (Data.cls (ClassData.mk "BoardError" [(.type "ValueError")] [(.ref 24), (.type "ValueError"), (.type "Exception"), (.type "BaseException"), (.type "object")] 23 "BoardError" true [] [(.ref 37), (.ref 49), (.ref 61)] false none false)) #[(some (.ref 15)), none, (some (.str "BoardError" 189)), (some (.str "BoardError" 197)), (some (.builtin "ValueError.__new__")), (some (.bool true))])
def o52_5(P:Pz):=(Obj.mk (.type "tuple") none (Data.seq #[(.ref 24)] 0) #[])
def o53_5(P:Pz):=(Obj.mk (.type "builtin_function_or_method") none (Data.fields #[(.builtin "type.__prepare__"), (.type "type")]) #[])
def o54_5(P:Pz):=(Obj.mk (.type "dict") none (Data.dict #[(dn P "__module__" 246 (.str "spinboard.errors" 187)), (dn P "__qualname__" 248 (.str "NoMark" 247)), (dn P "__firstlineno__" 250 (.int 8 249)), (dn P "__static_attributes__" 251 (.ref 59))] 4) #[])
def o55_5(P:Pz):=(sq0 "tuple" 0)
def o56_5(P:Pz):=(nf0)
def o57_5(P:Pz):=(cob "NoMark" 241 "NoMark" 242 243 8 0 0 0 0 55 false 181 56 .none .none .none 244 8 245)
def o58_5(P:Pz):=(Obj.mk (.type "frame") none Data.plain #[(some (.ref 57)), (some (.ref 3)), (some (.ref 54)), none, (some (.str "spinboard.errors" 187)), none, (some (.ref 0))])
def o59_5(P:Pz):=(sq0 "tuple" 0)
def o60_5(P:Pz):=(Obj.mk (.type "dict") none (Data.dict #[(dn P "__module__" 246 (.str "spinboard.errors" 187)), (dn P "__firstlineno__" 250 (.int 8 249)), (dn P "__static_attributes__" 251 (.ref 59)), (dn P "__doc__" 252 .none)] 2) #[])
def o61_5(P:Pz):=(Obj.mk (.type "type") none (Data.cls (ClassData.mk "NoMark" [(.ref 24)] [(.ref 61), (.ref 24), (.type "ValueError"), (.type "Exception"), (.type "BaseException"), (.type "object")] 60 "NoMark" true [] [] false none false)) #[(some (.ref 52)), none, (some (.str "NoMark" 239)), (some (.str "NoMark" 247)), (some (.builtin "ValueError.__new__")), (some (.bool true))])
def o62_5(P:Pz):=(Obj.mk (.type "super") none (Data.fields #[(.ref 61), (.ref 61), (.ref 61)]) #[])
def o63_5(P:Pz):=(Obj.mk (.type "builtin_function_or_method") none (Data.fields #[(.builtin "object.__init_subclass__"), (.ref 61)]) #[])
def T4 (P : Params) : BT := ((((((((((((((((T3 P).ins 3 (o3_5 P)).ins 12 (o12_5 P)).ins 24 (o24_5 P)).ins 52 (o52_5 P)).ins 53 (o53_5 P)).ins 54 (o54_5 P)).ins 55 (o55_5 P)).ins 56 (o56_5 P)).ins 57 (o57_5 P)).ins 58 (o58_5 P)).ins 59 (o59_5 P)).ins 60 (o60_5 P)).ins 61 (o61_5 P)).ins 62 (o62_5 P)).ins 63 (o63_5 P))
theorem g3 (p : Program) (b : List Stmt) (w : World) (os : OsState) : segRunT treeTable p w 11 (some (.ref 6)) 1 214 (SharedT.mk (T3 w.params) 52 life (Array.mk []) (Drawn.mk 0 0 0 0) 239 os) (piecesOf l3 en (Code.body b en) (Pos.mk 6 0 7 8) BB) = some (Flow.next, (SharedT.mk (T4 w.params) 64 life (Array.mk []) (Drawn.mk 0 0 0 0) 255 os), Code.body b en, (Pos.mk 8 0 9 8)) := by rw [PySem.W.Fast.te10110043849684766642, PySem.W.Fast.te14364793385576792824]; kernel_rfl
def o3_6(P:Pz):=Obj.mk (.type "dict") none (Data.dict #[(dn P "__name__" 165 (.str "spinboard.errors" 187)), (dn P "__doc__" 166 .none), (dn P "__package__" 167 .none), (dn P "__loader__" 168 (.builtin "__main__.__loader__#opaque")), (dn P "__spec__" 169 .none), (dn P "__annotations__" 170 (.ref 6)), (dn P "__builtins__" 171 (.ref 4)), (dn P "__file__" 173 (.str "/claim/cut.py" 172)), (dn P "__cached__" 174 .none), (dn P "BoardError" 206 (.ref 24)), (dn P "NoShare" 222 (.ref 37)), (dn P "NoAmount" 238 (.ref 49)), (dn P "NoMark" 254 (.ref 61)), (dn P "NoBoard" 270 (.ref 73))] 14) #[]
def o12_6(P:Pz):=(Obj.mk .none none (Data.fields #[(.int 2 0), (.int 0 0), (.ref 20), (.int 4 0), (.int 0 0), (.ref 33), (.int 6 0), (.int 0 0), (.ref 45), (.int 8 0), (.int 0 0), (.ref 57), (.int 10 0), (.int 0 0), (.ref 69)]) #[])
def o24_6(P:Pz):=(Obj.mk (.type "type") none (Data.cls (ClassData.mk "BoardError" [(.type "ValueError")] [(.ref 24), (.type "ValueError"), (.type "Exception"), (.type "BaseException"), (.type "object")] 23 "BoardError" true [] [(.ref 37), (.ref 49), (.ref 61), (.ref 73)] false none false)) #[(some (.ref 15)), none, (some (.str "BoardError" 189)), (some (.str "BoardError" 197)), (some (.builtin "ValueError.__new__")), (some (.bool true))])
def o64_6(P:Pz):=(Obj.mk (.type "tuple") none (Data.seq #[(.ref 24)] 0) #[])
def o65_6(P:Pz):=(Obj.mk (.type "builtin_function_or_method") none (Data.fields #[(.builtin "type.__prepare__"), (.type "type")]) #[])
def o66_6(P:Pz):=(Obj.mk (.type "dict") none (Data.dict #[(dn P "__module__" 262 (.str "spinboard.errors" 187)), (dn P "__qualname__" 264 (.str "NoBoard" 263)), (dn P "__firstlineno__" 266 (.int 10 265)), (dn P "__static_attributes__" 267 (.ref 71))] 4) #[])
def o67_6(P:Pz):=(sq0 "tuple" 0)
def o68_6(P:Pz):=(nf0)
def o69_6(P:Pz):=(cob "NoBoard" 257 "NoBoard" 258 259 10 0 0 0 0 67 false 181 68 .none .none .none 260 10 261)
def o70_6(P:Pz):=(Obj.mk (.type "frame") none Data.plain #[(some (.ref 69)), (some (.ref 3)), (some (.ref 66)), none, (some (.str "spinboard.errors" 187)), none, (some (.ref 0))])
def o71_6(P:Pz):=(sq0 "tuple" 0)
def o72_6(P:Pz):=(Obj.mk (.type "dict") none (Data.dict #[(dn P "__module__" 262 (.str "spinboard.errors" 187)), (dn P "__firstlineno__" 266 (.int 10 265)), (dn P "__static_attributes__" 267 (.ref 71)), (dn P "__doc__" 268 .none)] 2) #[])
def o73_6(P:Pz):=(Obj.mk (.type "type") none (Data.cls (ClassData.mk "NoBoard" [(.ref 24)] [(.ref 73), (.ref 24), (.type "ValueError"), (.type "Exception"), (.type "BaseException"), (.type "object")] 72 "NoBoard" true [] [] false none false)) #[(some (.ref 64)), none, (some (.str "NoBoard" 255)), (some (.str "NoBoard" 263)), (some (.builtin "ValueError.__new__")), (some (.bool true))])
def o74_6(P:Pz):=(Obj.mk (.type "super") none (Data.fields #[(.ref 73), (.ref 73), (.ref 73)]) #[])
def o75_6(P:Pz):=(Obj.mk (.type "builtin_function_or_method") none (Data.fields #[(.builtin "object.__init_subclass__"), (.ref 73)]) #[])
def T5 (P : Params) : BT := ((((((((((((((((T4 P).ins 3 (o3_6 P)).ins 12 (o12_6 P)).ins 24 (o24_6 P)).ins 64 (o64_6 P)).ins 65 (o65_6 P)).ins 66 (o66_6 P)).ins 67 (o67_6 P)).ins 68 (o68_6 P)).ins 69 (o69_6 P)).ins 70 (o70_6 P)).ins 71 (o71_6 P)).ins 72 (o72_6 P)).ins 73 (o73_6 P)).ins 74 (o74_6 P)).ins 75 (o75_6 P))
theorem g4 (p : Program) (b : List Stmt) (w : World) (os : OsState) : segRunT treeTable p w 11 (some (.ref 6)) 1 214 (SharedT.mk (T4 w.params) 64 life (Array.mk []) (Drawn.mk 0 0 0 0) 255 os) (piecesOf l4 en (Code.body b en) (Pos.mk 8 0 9 8) BB) = some (Flow.next, (SharedT.mk (T5 w.params) 76 life (Array.mk []) (Drawn.mk 0 0 0 0) 271 os), Code.body b en, (Pos.mk 10 0 11 8)) := by rw [PySem.W.Fast.te10110043849684766642, PySem.W.Fast.te14364793385576792824]; kernel_rfl
def o3_7(P:Pz):=Obj.mk (.type "dict") none (Data.dict #[(dn P "__name__" 165 (.str "spinboard.errors" 187)), (dn P "__doc__" 166 .none), (dn P "__package__" 167 .none), (dn P "__loader__" 168 (.builtin "__main__.__loader__#opaque")), (dn P "__spec__" 169 .none), (dn P "__annotations__" 170 (.ref 6)), (dn P "__builtins__" 171 (.ref 4)), (dn P "__file__" 173 (.str "/claim/cut.py" 172)), (dn P "__cached__" 174 .none), (dn P "BoardError" 206 (.ref 24)), (dn P "NoShare" 222 (.ref 37)), (dn P "NoAmount" 238 (.ref 49)), (dn P "NoMark" 254 (.ref 61)), (dn P "NoBoard" 270 (.ref 73)), (dn P "NoMove" 286 (.ref 85))] 15) #[]
def o12_7(P:Pz):=(Obj.mk .none none (Data.fields #[(.int 2 0), (.int 0 0), (.ref 20), (.int 4 0), (.int 0 0), (.ref 33), (.int 6 0), (.int 0 0), (.ref 45), (.int 8 0), (.int 0 0), (.ref 57), (.int 10 0), (.int 0 0), (.ref 69), (.int 12 0), (.int 0 0), (.ref 81)]) #[])
def o24_7(P:Pz):=(Obj.mk (.type "type") none (Data.cls (ClassData.mk "BoardError" [(.type "ValueError")] [(.ref 24), (.type "ValueError"), (.type "Exception"), (.type "BaseException"), (.type "object")] 23 "BoardError" true [] [(.ref 37), (.ref 49), (.ref 61), (.ref 73), (.ref 85)] false none false)) #[(some (.ref 15)), none, (some (.str "BoardError" 189)), (some (.str "BoardError" 197)), (some (.builtin "ValueError.__new__")), (some (.bool true))])
def o76_7(P:Pz):=(Obj.mk (.type "tuple") none (Data.seq #[(.ref 24)] 0) #[])
def o77_7(P:Pz):=(Obj.mk (.type "builtin_function_or_method") none (Data.fields #[(.builtin "type.__prepare__"), (.type "type")]) #[])
def o78_7(P:Pz):=(Obj.mk (.type "dict") none (Data.dict #[(dn P "__module__" 278 (.str "spinboard.errors" 187)), (dn P "__qualname__" 280 (.str "NoMove" 279)), (dn P "__firstlineno__" 282 (.int 12 281)), (dn P "__static_attributes__" 283 (.ref 83))] 4) #[])
def o79_7(P:Pz):=(sq0 "tuple" 0)
def o80_7(P:Pz):=(nf0)
def o81_7(P:Pz):=(cob "NoMove" 273 "NoMove" 274 275 12 0 0 0 0 79 false 181 80 .none .none .none 276 12 277)
def o82_7(P:Pz):=(Obj.mk (.type "frame") none Data.plain #[(some (.ref 81)), (some (.ref 3)), (some (.ref 78)), none, (some (.str "spinboard.errors" 187)), none, (some (.ref 0))])
def o83_7(P:Pz):=(sq0 "tuple" 0)
def o84_7(P:Pz):=(Obj.mk (.type "dict") none (Data.dict #[(dn P "__module__" 278 (.str "spinboard.errors" 187)), (dn P "__firstlineno__" 282 (.int 12 281)), (dn P "__static_attributes__" 283 (.ref 83)), (dn P "__doc__" 284 .none)] 2) #[])
def o85_7(P:Pz):=(Obj.mk (.type "type") none (Data.cls (ClassData.mk "NoMove" [(.ref 24)] [(.ref 85), (.ref 24), (.type "ValueError"), (.type "Exception"), (.type "BaseException"), (.type "object")] 84 "NoMove" true [] [] false none false)) #[(some (.ref 76)), none, (some (.str "NoMove" 271)), (some (.str "NoMove" 279)), (some (.builtin "ValueError.__new__")), (some (.bool true))])
def o86_7(P:Pz):=(Obj.mk (.type "super") none (Data.fields #[(.ref 85), (.ref 85), (.ref 85)]) #[])
def o87_7(P:Pz):=(Obj.mk (.type "builtin_function_or_method") none (Data.fields #[(.builtin "object.__init_subclass__"), (.ref 85)]) #[])
def T6 (P : Params) : BT := ((((((((((((((((T5 P).ins 3 (o3_7 P)).ins 12 (o12_7 P)).ins 24 (o24_7 P)).ins 76 (o76_7 P)).ins 77 (o77_7 P)).ins 78 (o78_7 P)).ins 79 (o79_7 P)).ins 80 (o80_7 P)).ins 81 (o81_7 P)).ins 82 (o82_7 P)).ins 83 (o83_7 P)).ins 84 (o84_7 P)).ins 85 (o85_7 P)).ins 86 (o86_7 P)).ins 87 (o87_7 P))
theorem g5 (p : Program) (b : List Stmt) (w : World) (os : OsState) : segRunT treeTable p w 11 (some (.ref 6)) 1 214 (SharedT.mk (T5 w.params) 76 life (Array.mk []) (Drawn.mk 0 0 0 0) 271 os) (piecesOf l5 en (Code.body b en) (Pos.mk 10 0 11 8) BB) = some (Flow.next, (SharedT.mk (T6 w.params) 88 life (Array.mk []) (Drawn.mk 0 0 0 0) 287 os), Code.body b en, (Pos.mk 12 0 13 8)) := by rw [PySem.W.Fast.te10110043849684766642, PySem.W.Fast.te14364793385576792824]; kernel_rfl
def o3_8(P:Pz):=Obj.mk (.type "dict") none (Data.dict #[(dn P "__name__" 165 (.str "spinboard.errors" 187)), (dn P "__doc__" 166 .none), (dn P "__package__" 167 .none), (dn P "__loader__" 168 (.builtin "__main__.__loader__#opaque")), (dn P "__spec__" 169 .none), (dn P "__annotations__" 170 (.ref 6)), (dn P "__builtins__" 171 (.ref 4)), (dn P "__file__" 173 (.str "/claim/cut.py" 172)), (dn P "__cached__" 174 .none), (dn P "BoardError" 206 (.ref 24)), (dn P "NoShare" 222 (.ref 37)), (dn P "NoAmount" 238 (.ref 49)), (dn P "NoMark" 254 (.ref 61)), (dn P "NoBoard" 270 (.ref 73)), (dn P "NoMove" 286 (.ref 85)), (dn P "NoCell" 302 (.ref 97))] 16) #[]
def o12_8(P:Pz):=(Obj.mk .none none (Data.fields #[(.int 2 0), (.int 0 0), (.ref 20), (.int 4 0), (.int 0 0), (.ref 33), (.int 6 0), (.int 0 0), (.ref 45), (.int 8 0), (.int 0 0), (.ref 57), (.int 10 0), (.int 0 0), (.ref 69), (.int 12 0), (.int 0 0), (.ref 81), (.int 14 0), (.int 0 0), (.ref 93)]) #[])
def o24_8(P:Pz):=(Obj.mk (.type "type") none (Data.cls (ClassData.mk "BoardError" [(.type "ValueError")] [(.ref 24), (.type "ValueError"), (.type "Exception"), (.type "BaseException"), (.type "object")] 23 "BoardError" true [] [(.ref 37), (.ref 49), (.ref 61), (.ref 73), (.ref 85), (.ref 97)] false none false)) #[(some (.ref 15)), none, (some (.str "BoardError" 189)), (some (.str "BoardError" 197)), (some (.builtin "ValueError.__new__")), (some (.bool true))])
def o88_8(P:Pz):=(Obj.mk (.type "tuple") none (Data.seq #[(.ref 24)] 0) #[])
def o89_8(P:Pz):=(Obj.mk (.type "builtin_function_or_method") none (Data.fields #[(.builtin "type.__prepare__"), (.type "type")]) #[])
def o90_8(P:Pz):=(Obj.mk (.type "dict") none (Data.dict #[(dn P "__module__" 294 (.str "spinboard.errors" 187)), (dn P "__qualname__" 296 (.str "NoCell" 295)), (dn P "__firstlineno__" 298 (.int 14 297)), (dn P "__static_attributes__" 299 (.ref 95))] 4) #[])
def o91_8(P:Pz):=(sq0 "tuple" 0)
def o92_8(P:Pz):=(nf0)
def o93_8(P:Pz):=(cob "NoCell" 289 "NoCell" 290 291 14 0 0 0 0 91 false 181 92 .none .none .none 292 14 293)
def o94_8(P:Pz):=(Obj.mk (.type "frame") none Data.plain #[(some (.ref 93)), (some (.ref 3)), (some (.ref 90)), none, (some (.str "spinboard.errors" 187)), none, (some (.ref 0))])
def o95_8(P:Pz):=(sq0 "tuple" 0)
def o96_8(P:Pz):=(Obj.mk (.type "dict") none (Data.dict #[(dn P "__module__" 294 (.str "spinboard.errors" 187)), (dn P "__firstlineno__" 298 (.int 14 297)), (dn P "__static_attributes__" 299 (.ref 95)), (dn P "__doc__" 300 .none)] 2) #[])
def o97_8(P:Pz):=(Obj.mk (.type "type") none (Data.cls (ClassData.mk "NoCell" [(.ref 24)] [(.ref 97), (.ref 24), (.type "ValueError"), (.type "Exception"), (.type "BaseException"), (.type "object")] 96 "NoCell" true [] [] false none false)) #[(some (.ref 88)), none, (some (.str "NoCell" 287)), (some (.str "NoCell" 295)), (some (.builtin "ValueError.__new__")), (some (.bool true))])
def o98_8(P:Pz):=(Obj.mk (.type "super") none (Data.fields #[(.ref 97), (.ref 97), (.ref 97)]) #[])
def o99_8(P:Pz):=(Obj.mk (.type "builtin_function_or_method") none (Data.fields #[(.builtin "object.__init_subclass__"), (.ref 97)]) #[])
def T7 (P : Params) : BT := ((((((((((((((((T6 P).ins 3 (o3_8 P)).ins 12 (o12_8 P)).ins 24 (o24_8 P)).ins 88 (o88_8 P)).ins 89 (o89_8 P)).ins 90 (o90_8 P)).ins 91 (o91_8 P)).ins 92 (o92_8 P)).ins 93 (o93_8 P)).ins 94 (o94_8 P)).ins 95 (o95_8 P)).ins 96 (o96_8 P)).ins 97 (o97_8 P)).ins 98 (o98_8 P)).ins 99 (o99_8 P))
theorem g6 (p : Program) (b : List Stmt) (w : World) (os : OsState) : segRunT treeTable p w 11 (some (.ref 6)) 1 214 (SharedT.mk (T6 w.params) 88 life (Array.mk []) (Drawn.mk 0 0 0 0) 287 os) (piecesOf l6 en (Code.body b en) (Pos.mk 12 0 13 8) BB) = some (Flow.next, (SharedT.mk (T7 w.params) 100 life (Array.mk []) (Drawn.mk 0 0 0 0) 303 os), Code.body b en, (Pos.mk 14 0 15 8)) := by rw [PySem.W.Fast.te10110043849684766642, PySem.W.Fast.te14364793385576792824]; kernel_rfl
def o3_9(P:Pz):=Obj.mk (.type "dict") none (Data.dict #[(dn P "__name__" 165 (.str "spinboard.errors" 187)), (dn P "__doc__" 166 .none), (dn P "__package__" 167 .none), (dn P "__loader__" 168 (.builtin "__main__.__loader__#opaque")), (dn P "__spec__" 169 .none), (dn P "__annotations__" 170 (.ref 6)), (dn P "__builtins__" 171 (.ref 4)), (dn P "__file__" 173 (.str "/claim/cut.py" 172)), (dn P "__cached__" 174 .none), (dn P "BoardError" 206 (.ref 24)), (dn P "NoShare" 222 (.ref 37)), (dn P "NoAmount" 238 (.ref 49)), (dn P "NoMark" 254 (.ref 61)), (dn P "NoBoard" 270 (.ref 73)), (dn P "NoMove" 286 (.ref 85)), (dn P "NoCell" 302 (.ref 97)), (dn P "NeverSo" 318 (.ref 109))] 17) #[]
def o12_9(P:Pz):=(Obj.mk .none none (Data.fields #[(.int 2 0), (.int 0 0), (.ref 20), (.int 4 0), (.int 0 0), (.ref 33), (.int 6 0), (.int 0 0), (.ref 45), (.int 8 0), (.int 0 0), (.ref 57), (.int 10 0), (.int 0 0), (.ref 69), (.int 12 0), (.int 0 0), (.ref 81), (.int 14 0), (.int 0 0), (.ref 93), (.int 16 0), (.int 0 0), (.ref 105)]) #[])
def o24_9(P:Pz):=(Obj.mk (.type "type") none (Data.cls (ClassData.mk "BoardError" [(.type "ValueError")] [(.ref 24), (.type "ValueError"), (.type "Exception"), (.type "BaseException"), (.type "object")] 23 "BoardError" true [] [(.ref 37), (.ref 49), (.ref 61), (.ref 73), (.ref 85), (.ref 97), (.ref 109)] false none false)) #[(some (.ref 15)), none, (some (.str "BoardError" 189)), (some (.str "BoardError" 197)), (some (.builtin "ValueError.__new__")), (some (.bool true))])
def o100_9(P:Pz):=(Obj.mk (.type "tuple") none (Data.seq #[(.ref 24)] 0) #[])
def o101_9(P:Pz):=(Obj.mk (.type "builtin_function_or_method") none (Data.fields #[(.builtin "type.__prepare__"), (.type "type")]) #[])
def o102_9(P:Pz):=(Obj.mk (.type "dict") none (Data.dict #[(dn P "__module__" 310 (.str "spinboard.errors" 187)), (dn P "__qualname__" 312 (.str "NeverSo" 311)), (dn P "__firstlineno__" 314 (.int 16 313)), (dn P "__static_attributes__" 315 (.ref 107))] 4) #[])
def o103_9(P:Pz):=(sq0 "tuple" 0)
def o104_9(P:Pz):=(nf0)
def o105_9(P:Pz):=(cob "NeverSo" 305 "NeverSo" 306 307 16 0 0 0 0 103 false 181 104 .none .none .none 308 16 309)
def o106_9(P:Pz):=(Obj.mk (.type "frame") none Data.plain #[(some (.ref 105)), (some (.ref 3)), (some (.ref 102)), none, (some (.str "spinboard.errors" 187)), none, (some (.ref 0))])
def o107_9(P:Pz):=(sq0 "tuple" 0)
def o108_9(P:Pz):=(Obj.mk (.type "dict") none (Data.dict #[(dn P "__module__" 310 (.str "spinboard.errors" 187)), (dn P "__firstlineno__" 314 (.int 16 313)), (dn P "__static_attributes__" 315 (.ref 107)), (dn P "__doc__" 316 .none)] 2) #[])
def o109_9(P:Pz):=(Obj.mk (.type "type") none (Data.cls (ClassData.mk "NeverSo" [(.ref 24)] [(.ref 109), (.ref 24), (.type "ValueError"), (.type "Exception"), (.type "BaseException"), (.type "object")] 108 "NeverSo" true [] [] false none false)) #[(some (.ref 100)), none, (some (.str "NeverSo" 303)), (some (.str "NeverSo" 311)), (some (.builtin "ValueError.__new__")), (some (.bool true))])
def o110_9(P:Pz):=(Obj.mk (.type "super") none (Data.fields #[(.ref 109), (.ref 109), (.ref 109)]) #[])
def o111_9(P:Pz):=(Obj.mk (.type "builtin_function_or_method") none (Data.fields #[(.builtin "object.__init_subclass__"), (.ref 109)]) #[])
def T8 (P : Params) : BT := ((((((((((((((((T7 P).ins 3 (o3_9 P)).ins 12 (o12_9 P)).ins 24 (o24_9 P)).ins 100 (o100_9 P)).ins 101 (o101_9 P)).ins 102 (o102_9 P)).ins 103 (o103_9 P)).ins 104 (o104_9 P)).ins 105 (o105_9 P)).ins 106 (o106_9 P)).ins 107 (o107_9 P)).ins 108 (o108_9 P)).ins 109 (o109_9 P)).ins 110 (o110_9 P)).ins 111 (o111_9 P))
theorem g7 (p : Program) (b : List Stmt) (w : World) (os : OsState) : segRunT treeTable p w 11 (some (.ref 6)) 1 214 (SharedT.mk (T7 w.params) 100 life (Array.mk []) (Drawn.mk 0 0 0 0) 303 os) (piecesOf l7 en (Code.body b en) (Pos.mk 14 0 15 8) BB) = some (Flow.next, (SharedT.mk (T8 w.params) 112 life (Array.mk []) (Drawn.mk 0 0 0 0) 319 os), Code.body b en, (Pos.mk 16 0 17 8)) := by rw [PySem.W.Fast.te10110043849684766642, PySem.W.Fast.te14364793385576792824]; kernel_rfl
def o3_10(P:Pz):=Obj.mk (.type "dict") none (Data.dict #[(dn P "__name__" 165 (.str "spinboard.errors" 187)), (dn P "__doc__" 166 .none), (dn P "__package__" 167 .none), (dn P "__loader__" 168 (.builtin "__main__.__loader__#opaque")), (dn P "__spec__" 169 .none), (dn P "__annotations__" 170 (.ref 6)), (dn P "__builtins__" 171 (.ref 4)), (dn P "__file__" 173 (.str "/claim/cut.py" 172)), (dn P "__cached__" 174 .none), (dn P "BoardError" 206 (.ref 24)), (dn P "NoShare" 222 (.ref 37)), (dn P "NoAmount" 238 (.ref 49)), (dn P "NoMark" 254 (.ref 61)), (dn P "NoBoard" 270 (.ref 73)), (dn P "NoMove" 286 (.ref 85)), (dn P "NoCell" 302 (.ref 97)), (dn P "NeverSo" 318 (.ref 109)), (dn P "NoTable" 334 (.ref 121))] 18) #[]
def o12_10(P:Pz):=(Obj.mk .none none (Data.fields #[(.int 2 0), (.int 0 0), (.ref 20), (.int 4 0), (.int 0 0), (.ref 33), (.int 6 0), (.int 0 0), (.ref 45), (.int 8 0), (.int 0 0), (.ref 57), (.int 10 0), (.int 0 0), (.ref 69), (.int 12 0), (.int 0 0), (.ref 81), (.int 14 0), (.int 0 0), (.ref 93), (.int 16 0), (.int 0 0), (.ref 105), (.int 18 0), (.int 0 0), (.ref 117)]) #[])
def o24_10(P:Pz):=(Obj.mk (.type "type") none (Data.cls (ClassData.mk "BoardError" [(.type "ValueError")] [(.ref 24), (.type "ValueError"), (.type "Exception"), (.type "BaseException"), (.type "object")] 23 "BoardError" true [] [(.ref 37), (.ref 49), (.ref 61), (.ref 73), (.ref 85), (.ref 97), (.ref 109), (.ref 121)] false none false)) #[(some (.ref 15)), none, (some (.str "BoardError" 189)), (some (.str "BoardError" 197)), (some (.builtin "ValueError.__new__")), (some (.bool true))])
def o112_10(P:Pz):=(Obj.mk (.type "tuple") none (Data.seq #[(.ref 24)] 0) #[])
def o113_10(P:Pz):=(Obj.mk (.type "builtin_function_or_method") none (Data.fields #[(.builtin "type.__prepare__"), (.type "type")]) #[])
def o114_10(P:Pz):=(Obj.mk (.type "dict") none (Data.dict #[(dn P "__module__" 326 (.str "spinboard.errors" 187)), (dn P "__qualname__" 328 (.str "NoTable" 327)), (dn P "__firstlineno__" 330 (.int 18 329)), (dn P "__static_attributes__" 331 (.ref 119))] 4) #[])
def o115_10(P:Pz):=(sq0 "tuple" 0)
def o116_10(P:Pz):=(nf0)
def o117_10(P:Pz):=(cob "NoTable" 321 "NoTable" 322 323 18 0 0 0 0 115 false 181 116 .none .none .none 324 18 325)
def o118_10(P:Pz):=(Obj.mk (.type "frame") none Data.plain #[(some (.ref 117)), (some (.ref 3)), (some (.ref 114)), none, (some (.str "spinboard.errors" 187)), none, (some (.ref 0))])
def o119_10(P:Pz):=(sq0 "tuple" 0)
def o120_10(P:Pz):=(Obj.mk (.type "dict") none (Data.dict #[(dn P "__module__" 326 (.str "spinboard.errors" 187)), (dn P "__firstlineno__" 330 (.int 18 329)), (dn P "__static_attributes__" 331 (.ref 119)), (dn P "__doc__" 332 .none)] 2) #[])
def o121_10(P:Pz):=(Obj.mk (.type "type") none (Data.cls (ClassData.mk "NoTable" [(.ref 24)] [(.ref 121), (.ref 24), (.type "ValueError"), (.type "Exception"), (.type "BaseException"), (.type "object")] 120 "NoTable" true [] [] false none false)) #[(some (.ref 112)), none, (some (.str "NoTable" 319)), (some (.str "NoTable" 327)), (some (.builtin "ValueError.__new__")), (some (.bool true))])
def o122_10(P:Pz):=(Obj.mk (.type "super") none (Data.fields #[(.ref 121), (.ref 121), (.ref 121)]) #[])
def o123_10(P:Pz):=(Obj.mk (.type "builtin_function_or_method") none (Data.fields #[(.builtin "object.__init_subclass__"), (.ref 121)]) #[])
def T9 (P : Params) : BT := ((((((((((((((((T8 P).ins 3 (o3_10 P)).ins 12 (o12_10 P)).ins 24 (o24_10 P)).ins 112 (o112_10 P)).ins 113 (o113_10 P)).ins 114 (o114_10 P)).ins 115 (o115_10 P)).ins 116 (o116_10 P)).ins 117 (o117_10 P)).ins 118 (o118_10 P)).ins 119 (o119_10 P)).ins 120 (o120_10 P)).ins 121 (o121_10 P)).ins 122 (o122_10 P)).ins 123 (o123_10 P))
theorem g8 (p : Program) (b : List Stmt) (w : World) (os : OsState) : segRunT treeTable p w 11 (some (.ref 6)) 1 214 (SharedT.mk (T8 w.params) 112 life (Array.mk []) (Drawn.mk 0 0 0 0) 319 os) (piecesOf l8 en (Code.body b en) (Pos.mk 16 0 17 8) BB) = some (Flow.next, (SharedT.mk (T9 w.params) 124 life (Array.mk []) (Drawn.mk 0 0 0 0) 335 os), Code.body b en, (Pos.mk 18 0 19 8)) := by rw [PySem.W.Fast.te10110043849684766642, PySem.W.Fast.te14364793385576792824]; kernel_rfl
def o3_11(P:Pz):=Obj.mk (.type "dict") none (Data.dict #[(dn P "__name__" 165 (.str "spinboard.errors" 187)), (dn P "__doc__" 166 .none), (dn P "__package__" 167 .none), (dn P "__loader__" 168 (.builtin "__main__.__loader__#opaque")), (dn P "__spec__" 169 .none), (dn P "__annotations__" 170 (.ref 6)), (dn P "__builtins__" 171 (.ref 4)), (dn P "__file__" 173 (.str "/claim/cut.py" 172)), (dn P "__cached__" 174 .none), (dn P "BoardError" 206 (.ref 24)), (dn P "NoShare" 222 (.ref 37)), (dn P "NoAmount" 238 (.ref 49)), (dn P "NoMark" 254 (.ref 61)), (dn P "NoBoard" 270 (.ref 73)), (dn P "NoMove" 286 (.ref 85)), (dn P "NoCell" 302 (.ref 97)), (dn P "NeverSo" 318 (.ref 109)), (dn P "NoTable" 334 (.ref 121)), (dn P "NoText" 359 (.ref 140))] 19) #[]
def o12_11(P:Pz):=(Obj.mk .none none (Data.fields #[(.int 2 0), (.int 0 0), (.ref 20), (.int 4 0), (.int 0 0), (.ref 33), (.int 6 0), (.int 0 0), (.ref 45), (.int 8 0), (.int 0 0), (.ref 57), (.int 10 0), (.int 0 0), (.ref 69), (.int 12 0), (.int 0 0), (.ref 81), (.int 14 0), (.int 0 0), (.ref 93), (.int 16 0), (.int 0 0), (.ref 105), (.int 18 0), (.int 0 0), (.ref 117), (.int 20 0), (.int 0 0), (.ref 129)]) #[])
def o24_11(P:Pz):=(Obj.mk (.type "type") none (Data.cls (ClassData.mk "BoardError" [(.type "ValueError")] [(.ref 24), (.type "ValueError"), (.type "Exception"), (.type "BaseException"), (.type "object")] 23 "BoardError" true [] [(.ref 37), (.ref 49), (.ref 61), (.ref 73), (.ref 85), (.ref 97), (.ref 109), (.ref 121), (.ref 140)] false none false)) #[(some (.ref 15)), none, (some (.str "BoardError" 189)), (some (.str "BoardError" 197)), (some (.builtin "ValueError.__new__")), (some (.bool true))])
def o124_11(P:Pz):=(Obj.mk (.type "tuple") none (Data.seq #[(.ref 24)] 0) #[])
def o125_11(P:Pz):=(Obj.mk (.type "builtin_function_or_method") none (Data.fields #[(.builtin "type.__prepare__"), (.type "type")]) #[])
def o126_11(P:Pz):=(Obj.mk (.type "dict") none (Data.dict #[(dn P "__module__" 342 (.str "spinboard.errors" 187)), (dn P "__qualname__" 344 (.str "NoText" 343)), (dn P "__firstlineno__" 346 (.int 20 345)), (dn P "__init__" 354 (.ref 137)), (dn P "__static_attributes__" 356 (.ref 138))] 5) #[])
def o127_11(P:Pz):=(sq0 "tuple" 0)
def o128_11(P:Pz):=(Obj.mk .none none (Data.fields #[(.int 22 0), (.int 4 0), (.ref 136)]) #[])
def o129_11(P:Pz):=(cob "NoText" 337 "NoText" 338 339 20 0 0 0 0 127 false 181 128 .none .none .none 340 20 341)
def o130_11(P:Pz):=(Obj.mk (.type "frame") none Data.plain #[(some (.ref 129)), (some (.ref 3)), (some (.ref 126)), none, (some (.str "spinboard.errors" 187)), none, (some (.ref 0))])
def o131_11(P:Pz):=(sq0 "tuple" 0)
def o132_11(P:Pz):=(nf0)
def o133_11(P:Pz):=(Obj.mk (.type "tuple") none (Data.seq #[(.str "self" 350), (.str "place" 351)] 0) #[])
def o134_11(P:Pz):=(sq0 "tuple" 0)
def o135_11(P:Pz):=(Obj.mk .none none (Data.func (FuncData.mk "__init__" "NoText.__init__" (defArgs (inClass (top 10) 0)) (FuncBody.stmts (defBody (inClass (top 10) 0))) (defScope (inClass (top 11) 0)) 0 [] .none .none .none .none none .none .none 0)) #[])
def o136_11(P:Pz):=(cob "__init__" 347 "NoText.__init__" 348 349 22 2 0 0 3 131 true 181 132 (.ref 133) (.ref 134) (.ref 135) 352 22 353)
def o137_11(P:Pz):=(Obj.mk (.type "function") none (Data.func (FuncData.mk "__init__" "NoText.__init__" (defArgs (inClass (top 10) 0)) (FuncBody.stmts (defBody (inClass (top 10) 0))) (defScope (inClass (top 11) 0)) 3 [] .none .none .none (.str "spinboard.errors" 187) none (.ref 136) .none 0)) #[])
def o138_11(P:Pz):=(Obj.mk (.type "tuple") none (Data.seq #[(.str "place" 355)] 0) #[])
def o139_11(P:Pz):=(Obj.mk (.type "dict") none (Data.dict #[(dn P "__module__" 342 (.str "spinboard.errors" 187)), (dn P "__firstlineno__" 346 (.int 20 345)), (dn P "__init__" 354 (.ref 137)), (dn P "__static_attributes__" 356 (.ref 138)), (dn P "__doc__" 357 .none)] 2) #[])
def o140_11(P:Pz):=(Obj.mk (.type "type") none (Data.cls (ClassData.mk "NoText" [(.ref 24)] [(.ref 140), (.ref 24), (.type "ValueError"), (.type "Exception"), (.type "BaseException"), (.type "object")] 139 "NoText" true [] [] false none false)) #[(some (.ref 124)), none, (some (.str "NoText" 335)), (some (.str "NoText" 343)), (some (.builtin "ValueError.__new__")), (some (.bool true))])
def o141_11(P:Pz):=(Obj.mk (.type "super") none (Data.fields #[(.ref 140), (.ref 140), (.ref 140)]) #[])
def o142_11(P:Pz):=(Obj.mk (.type "builtin_function_or_method") none (Data.fields #[(.builtin "object.__init_subclass__"), (.ref 140)]) #[])
def T10 (P : Params) : BT := (((((((((((((((((((((((T9 P).ins 3 (o3_11 P)).ins 12 (o12_11 P)).ins 24 (o24_11 P)).ins 124 (o124_11 P)).ins 125 (o125_11 P)).ins 126 (o126_11 P)).ins 127 (o127_11 P)).ins 128 (o128_11 P)).ins 129 (o129_11 P)).ins 130 (o130_11 P)).ins 131 (o131_11 P)).ins 132 (o132_11 P)).ins 133 (o133_11 P)).ins 134 (o134_11 P)).ins 135 (o135_11 P)).ins 136 (o136_11 P)).ins 137 (o137_11 P)).ins 138 (o138_11 P)).ins 139 (o139_11 P)).ins 140 (o140_11 P)).ins 141 (o141_11 P)).ins 142 (o142_11 P))
theorem g9 (p : Program) (b : List Stmt) (w : World) (os : OsState) : segRunT treeTable p w 11 (some (.ref 6)) 1 246 (SharedT.mk (T9 w.params) 124 life (Array.mk []) (Drawn.mk 0 0 0 0) 335 os) (piecesOf l9 en (Code.body b en) (Pos.mk 18 0 19 8) BB) = some (Flow.next, (SharedT.mk (T10 w.params) 143 life (Array.mk []) (Drawn.mk 0 0 0 0) 360 os), Code.body b en, (Pos.mk 20 0 23 26)) := by rw [PySem.W.Fast.te10110043849684766642, PySem.W.Fast.te14364793385576792824]; kernel_rfl
def o3_12(P:Pz):=Obj.mk (.type "dict") none (Data.dict #[(dn P "__name__" 165 (.str "spinboard.errors" 187)), (dn P "__doc__" 166 .none), (dn P "__package__" 167 .none), (dn P "__loader__" 168 (.builtin "__main__.__loader__#opaque")), (dn P "__spec__" 169 .none), (dn P "__annotations__" 170 (.ref 6)), (dn P "__builtins__" 171 (.ref 4)), (dn P "__file__" 173 (.str "/claim/cut.py" 172)), (dn P "__cached__" 174 .none), (dn P "BoardError" 206 (.ref 24)), (dn P "NoShare" 222 (.ref 37)), (dn P "NoAmount" 238 (.ref 49)), (dn P "NoMark" 254 (.ref 61)), (dn P "NoBoard" 270 (.ref 73)), (dn P "NoMove" 286 (.ref 85)), (dn P "NoCell" 302 (.ref 97)), (dn P "NeverSo" 318 (.ref 109)), (dn P "NoTable" 334 (.ref 121)), (dn P "NoText" 359 (.ref 140)), (dn P "NotBorne" 384 (.ref 159))] 20) #[]
def o12_12(P:Pz):=(Obj.mk .none none (Data.fields #[(.int 2 0), (.int 0 0), (.ref 20), (.int 4 0), (.int 0 0), (.ref 33), (.int 6 0), (.int 0 0), (.ref 45), (.int 8 0), (.int 0 0), (.ref 57), (.int 10 0), (.int 0 0), (.ref 69), (.int 12 0), (.int 0 0), (.ref 81), (.int 14 0), (.int 0 0), (.ref 93), (.int 16 0), (.int 0 0), (.ref 105), (.int 18 0), (.int 0 0), (.ref 117), (.int 20 0), (.int 0 0), (.ref 129), (.int 24 0), (.int 0 0), (.ref 148)]) #[])
def o24_12(P:Pz):=(Obj.mk (.type "type") none (Data.cls (ClassData.mk "BoardError" [(.type "ValueError")] [(.ref 24), (.type "ValueError"), (.type "Exception"), (.type "BaseException"), (.type "object")] 23 "BoardError" true [] [(.ref 37), (.ref 49), (.ref 61), (.ref 73), (.ref 85), (.ref 97), (.ref 109), (.ref 121), (.ref 140), (.ref 159)] false none false)) #[(some (.ref 15)), none, (some (.str "BoardError" 189)), (some (.str "BoardError" 197)), (some (.builtin "ValueError.__new__")), (some (.bool true))])
def o143_12(P:Pz):=(Obj.mk (.type "tuple") none (Data.seq #[(.ref 24)] 0) #[])
def o144_12(P:Pz):=(Obj.mk (.type "builtin_function_or_method") none (Data.fields #[(.builtin "type.__prepare__"), (.type "type")]) #[])
def o145_12(P:Pz):=(Obj.mk (.type "dict") none (Data.dict #[(dn P "__module__" 367 (.str "spinboard.errors" 187)), (dn P "__qualname__" 369 (.str "NotBorne" 368)), (dn P "__firstlineno__" 371 (.int 24 370)), (dn P "__init__" 379 (.ref 156)), (dn P "__static_attributes__" 381 (.ref 157))] 5) #[])
def o146_12(P:Pz):=(sq0 "tuple" 0)
def o147_12(P:Pz):=(Obj.mk .none none (Data.fields #[(.int 26 0), (.int 4 0), (.ref 155)]) #[])
def o148_12(P:Pz):=(cob "NotBorne" 362 "NotBorne" 363 364 24 0 0 0 0 146 false 181 147 .none .none .none 365 24 366)
def o149_12(P:Pz):=(Obj.mk (.type "frame") none Data.plain #[(some (.ref 148)), (some (.ref 3)), (some (.ref 145)), none, (some (.str "spinboard.errors" 187)), none, (some (.ref 0))])
def o150_12(P:Pz):=(sq0 "tuple" 0)
def o151_12(P:Pz):=(nf0)
def o152_12(P:Pz):=(Obj.mk (.type "tuple") none (Data.seq #[(.str "self" 375), (.str "place" 376)] 0) #[])
def o153_12(P:Pz):=(sq0 "tuple" 0)
def o154_12(P:Pz):=(fo1 "__init__" "NotBorne.__init__" (inClass (top 11) 0) 0 0)
def o155_12(P:Pz):=(cob "__init__" 372 "NotBorne.__init__" 373 374 26 2 0 0 3 150 true 181 151 (.ref 152) (.ref 153) (.ref 154) 377 26 378)
def o156_12(P:Pz):=(fo2 "__init__" "NotBorne.__init__" (inClass (top 11) 0) 3 "spinboard.errors" 187 155 0)
def o157_12(P:Pz):=(Obj.mk (.type "tuple") none (Data.seq #[(.str "place" 380)] 0) #[])
def o158_12(P:Pz):=(Obj.mk (.type "dict") none (Data.dict #[(dn P "__module__" 367 (.str "spinboard.errors" 187)), (dn P "__firstlineno__" 371 (.int 24 370)), (dn P "__init__" 379 (.ref 156)), (dn P "__static_attributes__" 381 (.ref 157)), (dn P "__doc__" 382 .none)] 2) #[])
def o159_12(P:Pz):=(Obj.mk (.type "type") none (Data.cls (ClassData.mk "NotBorne" [(.ref 24)] [(.ref 159), (.ref 24), (.type "ValueError"), (.type "Exception"), (.type "BaseException"), (.type "object")] 158 "NotBorne" true [] [] false none false)) #[(some (.ref 143)), none, (some (.str "NotBorne" 360)), (some (.str "NotBorne" 368)), (some (.builtin "ValueError.__new__")), (some (.bool true))])
def o160_12(P:Pz):=(Obj.mk (.type "super") none (Data.fields #[(.ref 159), (.ref 159), (.ref 159)]) #[])
def o161_12(P:Pz):=(Obj.mk (.type "builtin_function_or_method") none (Data.fields #[(.builtin "object.__init_subclass__"), (.ref 159)]) #[])
def T11 (P : Params) : BT := (((((((((((((((((((((((T10 P).ins 3 (o3_12 P)).ins 12 (o12_12 P)).ins 24 (o24_12 P)).ins 143 (o143_12 P)).ins 144 (o144_12 P)).ins 145 (o145_12 P)).ins 146 (o146_12 P)).ins 147 (o147_12 P)).ins 148 (o148_12 P)).ins 149 (o149_12 P)).ins 150 (o150_12 P)).ins 151 (o151_12 P)).ins 152 (o152_12 P)).ins 153 (o153_12 P)).ins 154 (o154_12 P)).ins 155 (o155_12 P)).ins 156 (o156_12 P)).ins 157 (o157_12 P)).ins 158 (o158_12 P)).ins 159 (o159_12 P)).ins 160 (o160_12 P)).ins 161 (o161_12 P))
theorem g10 (p : Program) (b : List Stmt) (w : World) (os : OsState) : segRunT treeTable p w 11 (some (.ref 6)) 1 246 (SharedT.mk (T10 w.params) 143 life (Array.mk []) (Drawn.mk 0 0 0 0) 360 os) (piecesOf l10 en (Code.body b en) (Pos.mk 20 0 23 26) BB) = some (Flow.next, (SharedT.mk (T11 w.params) 162 life (Array.mk []) (Drawn.mk 0 0 0 0) 385 os), Code.body b en, (Pos.mk 24 0 27 26)) := by rw [PySem.W.Fast.te10110043849684766642, PySem.W.Fast.te14364793385576792824]; kernel_rfl
def o3_13(P:Pz):=Obj.mk (.type "dict") none (Data.dict #[(dn P "__name__" 165 (.str "spinboard.amounts" 442)), (dn P "__doc__" 166 .none), (dn P "__package__" 167 .none), (dn P "__loader__" 168 (.builtin "__main__.__loader__#opaque")), (dn P "__spec__" 169 .none), (dn P "__annotations__" 170 (.ref 6)), (dn P "__builtins__" 171 (.ref 4)), (dn P "__file__" 173 (.str "/claim/cut.py" 172)), (dn P "__cached__" 174 .none), (dn P "BoardError" 206 (.ref 24)), (dn P "NoShare" 222 (.ref 37)), (dn P "NoAmount" 238 (.ref 49)), (dn P "NoMark" 254 (.ref 61)), (dn P "NoBoard" 270 (.ref 73)), (dn P "NoMove" 286 (.ref 85)), (dn P "NoCell" 302 (.ref 97)), (dn P "NeverSo" 318 (.ref 109)), (dn P "NoTable" 334 (.ref 121)), (dn P "NoText" 359 (.ref 140)), (dn P "NotBorne" 384 (.ref 159)), (dn P "Unguarded" 411 (.ref 178)), (dn P "is_whole" 420 (.ref 187)), (dn P "share" 432 (.ref 195)), (dn P "common_divisor" 441 (.ref 202)), (dn P "is_amount" 449 (.ref 207))] 25) #[]
def o12_13(P:Pz):=(Obj.mk .none none (Data.fields #[(.int 2 0), (.int 0 0), (.ref 20), (.int 4 0), (.int 0 0), (.ref 33), (.int 6 0), (.int 0 0), (.ref 45), (.int 8 0), (.int 0 0), (.ref 57), (.int 10 0), (.int 0 0), (.ref 69), (.int 12 0), (.int 0 0), (.ref 81), (.int 14 0), (.int 0 0), (.ref 93), (.int 16 0), (.int 0 0), (.ref 105), (.int 18 0), (.int 0 0), (.ref 117), (.int 20 0), (.int 0 0), (.ref 129), (.int 24 0), (.int 0 0), (.ref 148), (.int 28 0), (.int 0 0), (.ref 167), (.int 34 0), (.int 0 0), (.ref 186), (.int 36 0), (.int 0 0), (.ref 194), (.int 45 0), (.int 0 0), (.ref 201), (.int 52 0), (.int 0 0), (.ref 206)]) #[])
def o24_13(P:Pz):=(Obj.mk (.type "type") none (Data.cls (ClassData.mk "BoardError" [(.type "ValueError")] [(.ref 24), (.type "ValueError"), (.type "Exception"), (.type "BaseException"), (.type "object")] 23 "BoardError" true [] [(.ref 37), (.ref 49), (.ref 61), (.ref 73), (.ref 85), (.ref 97), (.ref 109), (.ref 121), (.ref 140), (.ref 159), (.ref 178)] false none false)) #[(some (.ref 15)), none, (some (.str "BoardError" 189)), (some (.str "BoardError" 197)), (some (.builtin "ValueError.__new__")), (some (.bool true))])
def o162_13(P:Pz):=(Obj.mk (.type "tuple") none (Data.seq #[(.ref 24)] 0) #[])
def o163_13(P:Pz):=(Obj.mk (.type "builtin_function_or_method") none (Data.fields #[(.builtin "type.__prepare__"), (.type "type")]) #[])
def o164_13(P:Pz):=(Obj.mk (.type "dict") none (Data.dict #[(dn P "__module__" 392 (.str "spinboard.errors" 187)), (dn P "__qualname__" 394 (.str "Unguarded" 393)), (dn P "__firstlineno__" 396 (.int 28 395)), (dn P "__init__" 405 (.ref 175)), (dn P "__static_attributes__" 408 (.ref 176))] 5) #[])
def o165_13(P:Pz):=(sq0 "tuple" 0)
def o166_13(P:Pz):=(Obj.mk .none none (Data.fields #[(.int 30 0), (.int 4 0), (.ref 174)]) #[])
def o167_13(P:Pz):=(cob "Unguarded" 387 "Unguarded" 388 389 28 0 0 0 0 165 false 181 166 .none .none .none 390 28 391)
def o168_13(P:Pz):=(Obj.mk (.type "frame") none Data.plain #[(some (.ref 167)), (some (.ref 3)), (some (.ref 164)), none, (some (.str "spinboard.errors" 187)), none, (some (.ref 0))])
def o169_13(P:Pz):=(sq0 "tuple" 0)
def o170_13(P:Pz):=(nf0)
def o171_13(P:Pz):=(Obj.mk (.type "tuple") none (Data.seq #[(.str "self" 400), (.str "one" 401), (.str "other" 402)] 0) #[])
def o172_13(P:Pz):=(sq0 "tuple" 0)
def o173_13(P:Pz):=(fo1 "__init__" "Unguarded.__init__" (inClass (top 12) 0) 0 0)
def o174_13(P:Pz):=(cob "__init__" 397 "Unguarded.__init__" 398 399 30 3 0 0 3 169 true 181 170 (.ref 171) (.ref 172) (.ref 173) 403 30 404)
def o175_13(P:Pz):=(fo2 "__init__" "Unguarded.__init__" (inClass (top 12) 0) 3 "spinboard.errors" 187 174 0)
def o176_13(P:Pz):=(Obj.mk (.type "tuple") none (Data.seq #[(.str "one" 406), (.str "other" 407)] 0) #[])
def o177_13(P:Pz):=(Obj.mk (.type "dict") none (Data.dict #[(dn P "__module__" 392 (.str "spinboard.errors" 187)), (dn P "__firstlineno__" 396 (.int 28 395)), (dn P "__init__" 405 (.ref 175)), (dn P "__static_attributes__" 408 (.ref 176)), (dn P "__doc__" 409 .none)] 2) #[])
def o178_13(P:Pz):=(Obj.mk (.type "type") none (Data.cls (ClassData.mk "Unguarded" [(.ref 24)] [(.ref 178), (.ref 24), (.type "ValueError"), (.type "Exception"), (.type "BaseException"), (.type "object")] 177 "Unguarded" true [] [] false none false)) #[(some (.ref 162)), none, (some (.str "Unguarded" 385)), (some (.str "Unguarded" 393)), (some (.builtin "ValueError.__new__")), (some (.bool true))])
def o179_13(P:Pz):=(Obj.mk (.type "super") none (Data.fields #[(.ref 178), (.ref 178), (.ref 178)]) #[])
def o180_13(P:Pz):=(Obj.mk (.type "builtin_function_or_method") none (Data.fields #[(.builtin "object.__init_subclass__"), (.ref 178)]) #[])
def o181_13(P:Pz):=(sq0 "tuple" 0)
def o182_13(P:Pz):=(nf0)
def o183_13(P:Pz):=(Obj.mk (.type "tuple") none (Data.seq #[(.str "thing" 417)] 0) #[])
def o184_13(P:Pz):=(sq0 "tuple" 0)
def o185_13(P:Pz):=(fo1 "is_whole" "is_whole" (top 14) 0 0)
def o186_13(P:Pz):=(cob "is_whole" 414 "is_whole" 415 416 34 1 0 0 3 181 true 181 182 (.ref 183) (.ref 184) (.ref 185) 418 34 419)
def o187_13(P:Pz):=(fo2 "is_whole" "is_whole" (top 14) 3 "spinboard.shares" 412 186 0)
def o188_13(P:Pz):=(Obj.mk (.type "tuple") none (Data.seq #[(.int 0 421), (.int 1 422)] 0) #[])
def o189_13(P:Pz):=(sq0 "tuple" 0)
def o190_13(P:Pz):=(nf0)
def o191_13(P:Pz):=(Obj.mk (.type "tuple") none (Data.seq #[(.str "top" 426), (.str "root" 427), (.str "bottom" 428), (.str "common" 429)] 0) #[])
def o192_13(P:Pz):=(sq0 "tuple" 0)
def o193_13(P:Pz):=(fo1 "share" "share" (top 15) 0 0)
def o194_13(P:Pz):=(cob "share" 423 "share" 424 425 36 3 0 0 3 189 true 181 190 (.ref 191) (.ref 192) (.ref 193) 430 36 431)
def o195_13(P:Pz):=(Obj.mk (.type "function") none (Data.func (FuncData.mk "share" "share" (defArgs (top 15)) (FuncBody.stmts (defBody (top 15))) (defScope (top 15)) 3 [] (.ref 188) .none .none (.str "spinboard.shares" 412) none (.ref 194) .none 0)) #[])
def o196_13(P:Pz):=(sq0 "tuple" 0)
def o197_13(P:Pz):=(nf0)
def o198_13(P:Pz):=(Obj.mk (.type "tuple") none (Data.seq #[(.str "one" 436), (.str "other" 437), (.str "rest" 438)] 0) #[])
def o199_13(P:Pz):=(sq0 "tuple" 0)
def o200_13(P:Pz):=(fo1 "common_divisor" "common_divisor" (top 16) 0 0)
def o201_13(P:Pz):=(cob "common_divisor" 433 "common_divisor" 434 435 45 2 0 0 3 196 true 181 197 (.ref 198) (.ref 199) (.ref 200) 439 45 440)
def o202_13(P:Pz):=(fo2 "common_divisor" "common_divisor" (top 16) 3 "spinboard.shares" 412 201 0)
def o203_13(P:Pz):=(sq0 "tuple" 0)
def o204_13(P:Pz):=(nf0)
def o205_13(P:Pz):=(fo1 "is_amount" "is_amount" (top 18) 0 0)
def o206_13(P:Pz):=(cob "is_amount" 444 "is_amount" 445 446 52 1 0 0 3 203 true 181 204 .none .none (.ref 205) 447 52 448)
def o207_13(P:Pz):=(fo2 "is_amount" "is_amount" (top 18) 3 "spinboard.amounts" 442 206 0)
def T12 (P : Params) : BT := ((((((((((((((((((((((((((((((((((((((((((((((((((T11 P).ins 3 (o3_13 P)).ins 12 (o12_13 P)).ins 24 (o24_13 P)).ins 162 (o162_13 P)).ins 163 (o163_13 P)).ins 164 (o164_13 P)).ins 165 (o165_13 P)).ins 166 (o166_13 P)).ins 167 (o167_13 P)).ins 168 (o168_13 P)).ins 169 (o169_13 P)).ins 170 (o170_13 P)).ins 171 (o171_13 P)).ins 172 (o172_13 P)).ins 173 (o173_13 P)).ins 174 (o174_13 P)).ins 175 (o175_13 P)).ins 176 (o176_13 P)).ins 177 (o177_13 P)).ins 178 (o178_13 P)).ins 179 (o179_13 P)).ins 180 (o180_13 P)).ins 181 (o181_13 P)).ins 182 (o182_13 P)).ins 183 (o183_13 P)).ins 184 (o184_13 P)).ins 185 (o185_13 P)).ins 186 (o186_13 P)).ins 187 (o187_13 P)).ins 188 (o188_13 P)).ins 189 (o189_13 P)).ins 190 (o190_13 P)).ins 191 (o191_13 P)).ins 192 (o192_13 P)).ins 193 (o193_13 P)).ins 194 (o194_13 P)).ins 195 (o195_13 P)).ins 196 (o196_13 P)).ins 197 (o197_13 P)).ins 198 (o198_13 P)).ins 199 (o199_13 P)).ins 200 (o200_13 P)).ins 201 (o201_13 P)).ins 202 (o202_13 P)).ins 203 (o203_13 P)).ins 204 (o204_13 P)).ins 205 (o205_13 P)).ins 206 (o206_13 P)).ins 207 (o207_13 P))
theorem g11 (p : Program) (b : List Stmt) (w : World) (os : OsState) : segRunT treeTable p w 11 (some (.ref 6)) 1 387 (SharedT.mk (T11 w.params) 162 life (Array.mk []) (Drawn.mk 0 0 0 0) 385 os) (piecesOf l11 en (Code.body b en) (Pos.mk 24 0 27 26) BB) = some (Flow.next, (SharedT.mk (T12 w.params) 208 life (Array.mk []) (Drawn.mk 0 0 0 0) 450 os), Code.body b en, (Pos.mk 52 0 57 70)) := by rw [PySem.W.Fast.te10110043849684766642, PySem.W.Fast.te14364793385576792824]; kernel_rfl
def o3_14(P:Pz):=Obj.mk (.type "dict") none (Data.dict #[(dn P "__name__" 165 (.str "spinboard.boards" 526)), (dn P "__doc__" 166 .none), (dn P "__package__" 167 .none), (dn P "__loader__" 168 (.builtin "__main__.__loader__#opaque")), (dn P "__spec__" 169 .none), (dn P "__annotations__" 170 (.ref 6)), (dn P "__builtins__" 171 (.ref 4)), (dn P "__file__" 173 (.str "/claim/cut.py" 172)), (dn P "__cached__" 174 .none), (dn P "BoardError" 206 (.ref 24)), (dn P "NoShare" 222 (.ref 37)), (dn P "NoAmount" 238 (.ref 49)), (dn P "NoMark" 254 (.ref 61)), (dn P "NoBoard" 270 (.ref 73)), (dn P "NoMove" 286 (.ref 85)), (dn P "NoCell" 302 (.ref 97)), (dn P "NeverSo" 318 (.ref 109)), (dn P "NoTable" 334 (.ref 121)), (dn P "NoText" 359 (.ref 140)), (dn P "NotBorne" 384 (.ref 159)), (dn P "Unguarded" 411 (.ref 178)), (dn P "is_whole" 420 (.ref 187)), (dn P "share" 432 (.ref 195)), (dn P "common_divisor" 441 (.ref 202)), (dn P "is_amount" 449 (.ref 207)), (dn P "halved_out" 463 (.ref 214)), (dn P "plus" 469 (.ref 219)), (dn P "times" 475 (.ref 224)), (dn P "spun" 485 (.ref 231)), (dn P "spun_once" 492 (.ref 238)), (dn P "mirror" 499 (.ref 245)), (dn P "real_share" 506 (.ref 252)), (dn P "ones" 517 (.ref 259)), (dn P "is_word" 525 (.ref 266)), (dn P "NOUGHT" 533 (.ref 267)), (dn P "ONE" 539 (.ref 268)), (dn P "LENGTHS" 546 (.ref 269)), (dn P "MOST_CELLS" 548 (.int 6 547)), (dn P "start" 555 (.ref 275)), (dn P "check_beginning" 563 (.ref 282))] 40) #[]
def o12_14(P:Pz):=(Obj.mk .none none (Data.fields #[(.int 2 0), (.int 0 0), (.ref 20), (.int 4 0), (.int 0 0), (.ref 33), (.int 6 0), (.int 0 0), (.ref 45), (.int 8 0), (.int 0 0), (.ref 57), (.int 10 0), (.int 0 0), (.ref 69), (.int 12 0), (.int 0 0), (.ref 81), (.int 14 0), (.int 0 0), (.ref 93), (.int 16 0), (.int 0 0), (.ref 105), (.int 18 0), (.int 0 0), (.ref 117), (.int 20 0), (.int 0 0), (.ref 129), (.int 24 0), (.int 0 0), (.ref 148), (.int 28 0), (.int 0 0), (.ref 167), (.int 34 0), (.int 0 0), (.ref 186), (.int 36 0), (.int 0 0), (.ref 194), (.int 45 0), (.int 0 0), (.ref 201), (.int 52 0), (.int 0 0), (.ref 206), (.int 58 0), (.int 0 0), (.ref 213), (.int 65 0), (.int 0 0), (.ref 218), (.int 71 0), (.int 0 0), (.ref 223), (.int 78 0), (.int 0 0), (.ref 230), (.int 83 0), (.int 0 0), (.ref 237), (.int 85 0), (.int 0 0), (.ref 244), (.int 87 0), (.int 0 0), (.ref 251), (.int 92 0), (.int 0 0), (.ref 258), (.int 99 0), (.int 0 0), (.ref 265), (.int 108 0), (.int 0 0), (.ref 274), (.int 111 0), (.int 0 0), (.ref 281)]) #[])
def o208_14(P:Pz):=(sq0 "tuple" 0)
def o209_14(P:Pz):=(nf0)
def o210_14(P:Pz):=(Obj.mk (.type "tuple") none (Data.seq #[(.str "a" 453), (.str "b" 454), (.str "c" 455), (.str "d" 456), (.str "h" 457), (.str "places" 458), (.str "lowest" 459), (.str "less" 460)] 0) #[])
def o211_14(P:Pz):=(sq0 "tuple" 0)
def o212_14(P:Pz):=(fo1 "halved_out" "halved_out" (top 19) 0 0)
def o213_14(P:Pz):=(cob "halved_out" 450 "halved_out" 451 452 58 5 0 0 3 208 true 181 209 (.ref 210) (.ref 211) (.ref 212) 461 58 462)
def o214_14(P:Pz):=(fo2 "halved_out" "halved_out" (top 19) 3 "spinboard.amounts" 442 213 0)
def o215_14(P:Pz):=(sq0 "tuple" 0)
def o216_14(P:Pz):=(nf0)
def o217_14(P:Pz):=(fo1 "plus" "plus" (top 20) 0 0)
def o218_14(P:Pz):=(cob "plus" 464 "plus" 465 466 65 2 0 0 3 215 true 181 216 .none .none (.ref 217) 467 65 468)
def o219_14(P:Pz):=(fo2 "plus" "plus" (top 20) 3 "spinboard.amounts" 442 218 0)
def o220_14(P:Pz):=(sq0 "tuple" 0)
def o221_14(P:Pz):=(nf0)
def o222_14(P:Pz):=(fo1 "times" "times" (top 21) 0 0)
def o223_14(P:Pz):=(cob "times" 470 "times" 471 472 71 2 0 0 3 220 true 181 221 .none .none (.ref 222) 473 71 474)
def o224_14(P:Pz):=(fo2 "times" "times" (top 21) 3 "spinboard.amounts" 442 223 0)
def o225_14(P:Pz):=(sq0 "tuple" 0)
def o226_14(P:Pz):=(nf0)
def o227_14(P:Pz):=(Obj.mk (.type "tuple") none (Data.seq #[(.str "one" 479), (.str "k" 480), (.str "turning" 481), (.str "step" 482)] 0) #[])
def o228_14(P:Pz):=(sq0 "tuple" 0)
def o229_14(P:Pz):=(fo1 "spun" "spun" (top 22) 0 0)
def o230_14(P:Pz):=(cob "spun" 476 "spun" 477 478 78 2 0 0 3 225 true 181 226 (.ref 227) (.ref 228) (.ref 229) 483 78 484)
def o231_14(P:Pz):=(fo2 "spun" "spun" (top 22) 3 "spinboard.amounts" 442 230 0)
def o232_14(P:Pz):=(sq0 "tuple" 0)
def o233_14(P:Pz):=(nf0)
def o234_14(P:Pz):=(Obj.mk (.type "tuple") none (Data.seq #[(.str "one" 489)] 0) #[])
def o235_14(P:Pz):=(sq0 "tuple" 0)
def o236_14(P:Pz):=(Obj.mk .none none (Data.func (FuncData.mk "spun_once" "spun_once" (defArgs (top 23)) (FuncBody.stmts (defBody (top 23))) (defScope (top 24)) 0 [] .none .none .none .none none .none .none 0)) #[])
def o237_14(P:Pz):=(cob "spun_once" 486 "spun_once" 487 488 83 1 0 0 3 232 true 181 233 (.ref 234) (.ref 235) (.ref 236) 490 83 491)
def o238_14(P:Pz):=(Obj.mk (.type "function") none (Data.func (FuncData.mk "spun_once" "spun_once" (defArgs (top 23)) (FuncBody.stmts (defBody (top 23))) (defScope (top 24)) 3 [] .none .none .none (.str "spinboard.amounts" 442) none (.ref 237) .none 0)) #[])
def o239_14(P:Pz):=(sq0 "tuple" 0)
def o240_14(P:Pz):=(nf0)
def o241_14(P:Pz):=(Obj.mk (.type "tuple") none (Data.seq #[(.str "one" 496)] 0) #[])
def o242_14(P:Pz):=(sq0 "tuple" 0)
def o243_14(P:Pz):=(fo1 "mirror" "mirror" (top 24) 0 0)
def o244_14(P:Pz):=(cob "mirror" 493 "mirror" 494 495 85 1 0 0 3 239 true 181 240 (.ref 241) (.ref 242) (.ref 243) 497 85 498)
def o245_14(P:Pz):=(fo2 "mirror" "mirror" (top 24) 3 "spinboard.amounts" 442 244 0)
def o246_14(P:Pz):=(sq0 "tuple" 0)
def o247_14(P:Pz):=(nf0)
def o248_14(P:Pz):=(Obj.mk (.type "tuple") none (Data.seq #[(.str "one" 503)] 0) #[])
def o249_14(P:Pz):=(sq0 "tuple" 0)
def o250_14(P:Pz):=(fo1 "real_share" "real_share" (top 25) 0 0)
def o251_14(P:Pz):=(cob "real_share" 500 "real_share" 501 502 87 1 0 0 3 246 true 181 247 (.ref 248) (.ref 249) (.ref 250) 504 87 505)
def o252_14(P:Pz):=(fo2 "real_share" "real_share" (top 25) 3 "spinboard.amounts" 442 251 0)
def o253_14(P:Pz):=(sq0 "tuple" 0)
def o254_14(P:Pz):=(nf0)
def o255_14(P:Pz):=(Obj.mk (.type "tuple") none (Data.seq #[(.str "number" 512), (.str "many" 513), (.str "rest" 514)] 0) #[])
def o256_14(P:Pz):=(sq0 "tuple" 0)
def o257_14(P:Pz):=(fo1 "ones" "ones" (top 27) 0 0)
def o258_14(P:Pz):=(cob "ones" 509 "ones" 510 511 92 1 0 0 3 253 true 181 254 (.ref 255) (.ref 256) (.ref 257) 515 92 516)
def o259_14(P:Pz):=(fo2 "ones" "ones" (top 27) 3 "spinboard.marks" 507 258 0)
def o260_14(P:Pz):=(sq0 "tuple" 0)
def o261_14(P:Pz):=(nf0)
def o262_14(P:Pz):=(Obj.mk (.type "tuple") none (Data.seq #[(.str "thing" 521), (.str "cells" 522)] 0) #[])
def o263_14(P:Pz):=(sq0 "tuple" 0)
def o264_14(P:Pz):=(fo1 "is_word" "is_word" (top 28) 0 0)
def o265_14(P:Pz):=(cob "is_word" 518 "is_word" 519 520 99 2 0 0 3 260 true 181 261 (.ref 262) (.ref 263) (.ref 264) 523 99 524)
def o266_14(P:Pz):=(fo2 "is_word" "is_word" (top 28) 3 "spinboard.marks" 507 265 0)
def o267_14(P:Pz):=(Obj.mk (.type "tuple") none (Data.seq #[(.int 0 528), (.int 0 529), (.int 0 530), (.int 0 531), (.int 0 532)] 0) #[])
def o268_14(P:Pz):=(Obj.mk (.type "tuple") none (Data.seq #[(.int 1 534), (.int 0 535), (.int 0 536), (.int 0 537), (.int 0 538)] 0) #[])
def o269_14(P:Pz):=(Obj.mk (.type "tuple") none (Data.seq #[(.int 2 540), (.int 4 541), (.int 8 542), (.int 16 543), (.int 32 544), (.int 64 545)] 0) #[])
def o270_14(P:Pz):=(Obj.mk (.type "tuple") none (Data.seq #[(.int 0 549)] 0) #[])
def o271_14(P:Pz):=(sq0 "tuple" 0)
def o272_14(P:Pz):=(nf0)
def o273_14(P:Pz):=(fo1 "start" "start" (top 34) 0 0)
def o274_14(P:Pz):=(cob "start" 550 "start" 551 552 108 2 0 0 3 271 true 181 272 .none .none (.ref 273) 553 108 554)
def o275_14(P:Pz):=(Obj.mk (.type "function") none (Data.func (FuncData.mk "start" "start" (defArgs (top 34)) (FuncBody.stmts (defBody (top 34))) (defScope (top 34)) 3 [] (.ref 270) .none .none (.str "spinboard.boards" 526) none (.ref 274) .none 0)) #[])
def o276_14(P:Pz):=(sq0 "tuple" 0)
def o277_14(P:Pz):=(nf0)
def o278_14(P:Pz):=(Obj.mk (.type "tuple") none (Data.seq #[(.str "cells" 559), (.str "word" 560)] 0) #[])
def o279_14(P:Pz):=(sq0 "tuple" 0)
def o280_14(P:Pz):=(fo1 "check_beginning" "check_beginning" (top 35) 0 0)
def o281_14(P:Pz):=(cob "check_beginning" 556 "check_beginning" 557 558 111 2 0 0 3 276 true 181 277 (.ref 278) (.ref 279) (.ref 280) 561 111 562)
def o282_14(P:Pz):=(fo2 "check_beginning" "check_beginning" (top 35) 3 "spinboard.boards" 526 281 0)
def T13 (P : Params) : BT := ((((((((((((((((((((((((((((((((((((((((((((((((((((((((((((((((((((((((((((((T12 P).ins 3 (o3_14 P)).ins 12 (o12_14 P)).ins 208 (o208_14 P)).ins 209 (o209_14 P)).ins 210 (o210_14 P)).ins 211 (o211_14 P)).ins 212 (o212_14 P)).ins 213 (o213_14 P)).ins 214 (o214_14 P)).ins 215 (o215_14 P)).ins 216 (o216_14 P)).ins 217 (o217_14 P)).ins 218 (o218_14 P)).ins 219 (o219_14 P)).ins 220 (o220_14 P)).ins 221 (o221_14 P)).ins 222 (o222_14 P)).ins 223 (o223_14 P)).ins 224 (o224_14 P)).ins 225 (o225_14 P)).ins 226 (o226_14 P)).ins 227 (o227_14 P)).ins 228 (o228_14 P)).ins 229 (o229_14 P)).ins 230 (o230_14 P)).ins 231 (o231_14 P)).ins 232 (o232_14 P)).ins 233 (o233_14 P)).ins 234 (o234_14 P)).ins 235 (o235_14 P)).ins 236 (o236_14 P)).ins 237 (o237_14 P)).ins 238 (o238_14 P)).ins 239 (o239_14 P)).ins 240 (o240_14 P)).ins 241 (o241_14 P)).ins 242 (o242_14 P)).ins 243 (o243_14 P)).ins 244 (o244_14 P)).ins 245 (o245_14 P)).ins 246 (o246_14 P)).ins 247 (o247_14 P)).ins 248 (o248_14 P)).ins 249 (o249_14 P)).ins 250 (o250_14 P)).ins 251 (o251_14 P)).ins 252 (o252_14 P)).ins 253 (o253_14 P)).ins 254 (o254_14 P)).ins 255 (o255_14 P)).ins 256 (o256_14 P)).ins 257 (o257_14 P)).ins 258 (o258_14 P)).ins 259 (o259_14 P)).ins 260 (o260_14 P)).ins 261 (o261_14 P)).ins 262 (o262_14 P)).ins 263 (o263_14 P)).ins 264 (o264_14 P)).ins 265 (o265_14 P)).ins 266 (o266_14 P)).ins 267 (o267_14 P)).ins 268 (o268_14 P)).ins 269 (o269_14 P)).ins 270 (o270_14 P)).ins 271 (o271_14 P)).ins 272 (o272_14 P)).ins 273 (o273_14 P)).ins 274 (o274_14 P)).ins 275 (o275_14 P)).ins 276 (o276_14 P)).ins 277 (o277_14 P)).ins 278 (o278_14 P)).ins 279 (o279_14 P)).ins 280 (o280_14 P)).ins 281 (o281_14 P)).ins 282 (o282_14 P))
theorem g12 (p : Program) (b : List Stmt) (w : World) (os : OsState) : segRunT treeTable p w 11 (some (.ref 6)) 1 400 (SharedT.mk (T12 w.params) 208 life (Array.mk []) (Drawn.mk 0 0 0 0) 450 os) (piecesOf l12 en (Code.body b en) (Pos.mk 52 0 57 70) BB) = some (Flow.next, (SharedT.mk (T13 w.params) 283 life (Array.mk []) (Drawn.mk 0 0 0 0) 564 os), Code.body b en, (Pos.mk 111 0 115 62)) := by rw [PySem.W.Fast.te10110043849684766642, PySem.W.Fast.te14364793385576792824]; kernel_rfl
def o3_15(P:Pz):=Obj.mk (.type "dict") none (Data.dict #[(dn P "__name__" 165 (.str "law_spinboard_k25_boards_and_hefts" 607)), (dn P "__doc__" 166 .none), (dn P "__package__" 167 .none), (dn P "__loader__" 168 (.builtin "__main__.__loader__#opaque")), (dn P "__spec__" 169 .none), (dn P "__annotations__" 170 (.ref 6)), (dn P "__builtins__" 171 (.ref 4)), (dn P "__file__" 173 (.str "/claim/cut.py" 172)), (dn P "__cached__" 174 .none), (dn P "BoardError" 206 (.ref 24)), (dn P "NoShare" 222 (.ref 37)), (dn P "NoAmount" 238 (.ref 49)), (dn P "NoMark" 254 (.ref 61)), (dn P "NoBoard" 270 (.ref 73)), (dn P "NoMove" 286 (.ref 85)), (dn P "NoCell" 302 (.ref 97)), (dn P "NeverSo" 318 (.ref 109)), (dn P "NoTable" 334 (.ref 121)), (dn P "NoText" 359 (.ref 140)), (dn P "NotBorne" 384 (.ref 159)), (dn P "Unguarded" 411 (.ref 178)), (dn P "is_whole" 420 (.ref 187)), (dn P "share" 432 (.ref 195)), (dn P "common_divisor" 441 (.ref 202)), (dn P "is_amount" 449 (.ref 207)), (dn P "halved_out" 463 (.ref 214)), (dn P "plus" 469 (.ref 219)), (dn P "times" 475 (.ref 224)), (dn P "spun" 485 (.ref 231)), (dn P "spun_once" 492 (.ref 238)), (dn P "mirror" 499 (.ref 245)), (dn P "real_share" 506 (.ref 252)), (dn P "ones" 517 (.ref 259)), (dn P "is_word" 525 (.ref 266)), (dn P "NOUGHT" 533 (.ref 267)), (dn P "ONE" 539 (.ref 268)), (dn P "LENGTHS" 546 (.ref 269)), (dn P "MOST_CELLS" 548 (.int 6 547)), (dn P "start" 555 (.ref 275)), (dn P "check_beginning" 563 (.ref 282)), (dn P "board_of" 569 (.ref 287)), (dn P "cells_of" 576 (.ref 294)), (dn P "heft" 585 (.ref 301)), (dn P "scaled" 591 (.ref 306)), (dn P "laid_on" 597 (.ref 311)), (dn P "spun_by_mark" 606 (.ref 318)), (dn P "_law_cell_at" 616 (.ref 325)), (dn P "_law_whole" 623 (.ref 332)), (dn P "_law_cells_by" 630 (.ref 339)), (dn P "_law_low" 636 (.ref 344)), (dn P "_law_spin" 650 (.ref 351)), (dn P "_law_amount_by" 662 (.ref 358)), (dn P "_law_board_by" 668 (.ref 363))] 53) #[]
def o12_15(P:Pz):=(Obj.mk .none none (Data.fields #[(.int 2 0), (.int 0 0), (.ref 20), (.int 4 0), (.int 0 0), (.ref 33), (.int 6 0), (.int 0 0), (.ref 45), (.int 8 0), (.int 0 0), (.ref 57), (.int 10 0), (.int 0 0), (.ref 69), (.int 12 0), (.int 0 0), (.ref 81), (.int 14 0), (.int 0 0), (.ref 93), (.int 16 0), (.int 0 0), (.ref 105), (.int 18 0), (.int 0 0), (.ref 117), (.int 20 0), (.int 0 0), (.ref 129), (.int 24 0), (.int 0 0), (.ref 148), (.int 28 0), (.int 0 0), (.ref 167), (.int 34 0), (.int 0 0), (.ref 186), (.int 36 0), (.int 0 0), (.ref 194), (.int 45 0), (.int 0 0), (.ref 201), (.int 52 0), (.int 0 0), (.ref 206), (.int 58 0), (.int 0 0), (.ref 213), (.int 65 0), (.int 0 0), (.ref 218), (.int 71 0), (.int 0 0), (.ref 223), (.int 78 0), (.int 0 0), (.ref 230), (.int 83 0), (.int 0 0), (.ref 237), (.int 85 0), (.int 0 0), (.ref 244), (.int 87 0), (.int 0 0), (.ref 251), (.int 92 0), (.int 0 0), (.ref 258), (.int 99 0), (.int 0 0), (.ref 265), (.int 108 0), (.int 0 0), (.ref 274), (.int 111 0), (.int 0 0), (.ref 281), (.int 116 0), (.int 0 0), (.ref 286), (.int 124 0), (.int 0 0), (.ref 293), (.int 126 0), (.int 0 0), (.ref 300), (.int 131 0), (.int 0 0), (.ref 305), (.int 133 0), (.int 0 0), (.ref 310), (.int 135 0), (.int 0 0), (.ref 317), (.int 138 0), (.int 0 0), (.ref 324), (.int 142 0), (.int 0 0), (.ref 331), (.int 144 0), (.int 0 0), (.ref 338), (.int 148 0), (.int 0 0), (.ref 343), (.int 153 0), (.int 0 0), (.ref 350), (.int 158 0), (.int 0 0), (.ref 357), (.int 178 0), (.int 0 0), (.ref 362)]) #[])
def o283_15(P:Pz):=(sq0 "tuple" 0)
def o284_15(P:Pz):=(nf0)
def o285_15(P:Pz):=(fo1 "board_of" "board_of" (top 36) 0 0)
def o286_15(P:Pz):=(cob "board_of" 564 "board_of" 565 566 116 1 0 0 3 283 true 181 284 .none .none (.ref 285) 567 116 568)
def o287_15(P:Pz):=(fo2 "board_of" "board_of" (top 36) 3 "spinboard.boards" 526 286 0)
def o288_15(P:Pz):=(sq0 "tuple" 0)
def o289_15(P:Pz):=(nf0)
def o290_15(P:Pz):=(Obj.mk (.type "tuple") none (Data.seq #[(.str "board" 573)] 0) #[])
def o291_15(P:Pz):=(sq0 "tuple" 0)
def o292_15(P:Pz):=(fo1 "cells_of" "cells_of" (top 37) 0 0)
def o293_15(P:Pz):=(cob "cells_of" 570 "cells_of" 571 572 124 1 0 0 3 288 true 181 289 (.ref 290) (.ref 291) (.ref 292) 574 124 575)
def o294_15(P:Pz):=(fo2 "cells_of" "cells_of" (top 37) 3 "spinboard.boards" 526 293 0)
def o295_15(P:Pz):=(sq0 "tuple" 0)
def o296_15(P:Pz):=(nf0)
def o297_15(P:Pz):=(Obj.mk (.type "tuple") none (Data.seq #[(.str "board" 580), (.str "total" 581), (.str "one" 582)] 0) #[])
def o298_15(P:Pz):=(sq0 "tuple" 0)
def o299_15(P:Pz):=(fo1 "heft" "heft" (top 38) 0 0)
def o300_15(P:Pz):=(cob "heft" 577 "heft" 578 579 126 1 0 0 3 295 true 181 296 (.ref 297) (.ref 298) (.ref 299) 583 126 584)
def o301_15(P:Pz):=(fo2 "heft" "heft" (top 38) 3 "spinboard.boards" 526 300 0)
def o302_15(P:Pz):=(sq0 "tuple" 0)
def o303_15(P:Pz):=(nf0)
def o304_15(P:Pz):=(fo1 "scaled" "scaled" (top 39) 0 0)
def o305_15(P:Pz):=(cob "scaled" 586 "scaled" 587 588 131 2 0 0 3 302 true 181 303 .none .none (.ref 304) 589 131 590)
def o306_15(P:Pz):=(fo2 "scaled" "scaled" (top 39) 3 "spinboard.boards" 526 305 0)
def o307_15(P:Pz):=(sq0 "tuple" 0)
def o308_15(P:Pz):=(nf0)
def o309_15(P:Pz):=(fo1 "laid_on" "laid_on" (top 40) 0 0)
def o310_15(P:Pz):=(cob "laid_on" 592 "laid_on" 593 594 133 2 0 0 3 307 true 181 308 .none .none (.ref 309) 595 133 596)
def o311_15(P:Pz):=(fo2 "laid_on" "laid_on" (top 40) 3 "spinboard.boards" 526 310 0)
def o312_15(P:Pz):=(sq0 "tuple" 0)
def o313_15(P:Pz):=(nf0)
def o314_15(P:Pz):=(Obj.mk (.type "tuple") none (Data.seq #[(.str "board" 601), (.str "word" 602), (.str "mark" 603)] 0) #[])
def o315_15(P:Pz):=(sq0 "tuple" 0)
def o316_15(P:Pz):=(fo1 "spun_by_mark" "spun_by_mark" (top 41) 0 0)
def o317_15(P:Pz):=(cob "spun_by_mark" 598 "spun_by_mark" 599 600 135 3 0 0 3 312 true 181 313 (.ref 314) (.ref 315) (.ref 316) 604 135 605)
def o318_15(P:Pz):=(fo2 "spun_by_mark" "spun_by_mark" (top 41) 3 "spinboard.boards" 526 317 0)
def o319_15(P:Pz):=(sq0 "tuple" 0)
def o320_15(P:Pz):=(nf0)
def o321_15(P:Pz):=(Obj.mk (.type "tuple") none (Data.seq #[(.str "_law_script" 612), (.str "_law_k" 613)] 0) #[])
def o322_15(P:Pz):=(sq0 "tuple" 0)
def o323_15(P:Pz):=(fo1 "_law_cell_at" "_law_cell_at" (top 43) 0 0)
def o324_15(P:Pz):=(cob "_law_cell_at" 609 "_law_cell_at" 610 611 138 2 0 0 3 319 true 181 320 (.ref 321) (.ref 322) (.ref 323) 614 138 615)
def o325_15(P:Pz):=(fo2 "_law_cell_at" "_law_cell_at" (top 43) 3 "law_spinboard_k25_boards_and_hefts" 607 324 0)
def o326_15(P:Pz):=(sq0 "tuple" 0)
def o327_15(P:Pz):=(nf0)
def o328_15(P:Pz):=(Obj.mk (.type "tuple") none (Data.seq #[(.str "_law_found" 620)] 0) #[])
def o329_15(P:Pz):=(sq0 "tuple" 0)
def o330_15(P:Pz):=(fo1 "_law_whole" "_law_whole" (top 44) 0 0)
def o331_15(P:Pz):=(cob "_law_whole" 617 "_law_whole" 618 619 142 1 0 0 3 326 true 181 327 (.ref 328) (.ref 329) (.ref 330) 621 142 622)
def o332_15(P:Pz):=(fo2 "_law_whole" "_law_whole" (top 44) 3 "law_spinboard_k25_boards_and_hefts" 607 331 0)
def o333_15(P:Pz):=(sq0 "tuple" 0)
def o334_15(P:Pz):=(nf0)
def o335_15(P:Pz):=(Obj.mk (.type "tuple") none (Data.seq #[(.str "_law_cell" 627)] 0) #[])
def o336_15(P:Pz):=(sq0 "tuple" 0)
def o337_15(P:Pz):=(fo1 "_law_cells_by" "_law_cells_by" (top 45) 0 0)
def o338_15(P:Pz):=(cob "_law_cells_by" 624 "_law_cells_by" 625 626 144 1 0 0 3 333 true 181 334 (.ref 335) (.ref 336) (.ref 337) 628 144 629)
def o339_15(P:Pz):=(fo2 "_law_cells_by" "_law_cells_by" (top 45) 3 "law_spinboard_k25_boards_and_hefts" 607 338 0)
def o340_15(P:Pz):=(sq0 "tuple" 0)
def o341_15(P:Pz):=(nf0)
def o342_15(P:Pz):=(fo1 "_law_low" "_law_low" (top 46) 0 0)
def o343_15(P:Pz):=(cob "_law_low" 631 "_law_low" 632 633 148 2 0 0 3 340 true 181 341 .none .none (.ref 342) 634 148 635)
def o344_15(P:Pz):=(fo2 "_law_low" "_law_low" (top 46) 3 "law_spinboard_k25_boards_and_hefts" 607 343 0)
def o345_15(P:Pz):=(sq0 "tuple" 0)
def o346_15(P:Pz):=(nf0)
def o347_15(P:Pz):=(Obj.mk (.type "tuple") none (Data.seq #[(.str "_law_one" 640), (.str "_law_k" 641), (.str "_law_a" 642), (.str "_law_b" 643), (.str "_law_c" 644), (.str "_law_d" 645), (.str "_law_h" 646), (.str "_law_j" 647)] 0) #[])
def o348_15(P:Pz):=(sq0 "tuple" 0)
def o349_15(P:Pz):=(fo1 "_law_spin" "_law_spin" (top 47) 0 0)
def o350_15(P:Pz):=(cob "_law_spin" 637 "_law_spin" 638 639 153 2 0 0 3 345 true 181 346 (.ref 347) (.ref 348) (.ref 349) 648 153 649)
def o351_15(P:Pz):=(fo2 "_law_spin" "_law_spin" (top 47) 3 "law_spinboard_k25_boards_and_hefts" 607 350 0)
def o352_15(P:Pz):=(sq0 "tuple" 0)
def o353_15(P:Pz):=(nf0)
def o354_15(P:Pz):=(Obj.mk (.type "tuple") none (Data.seq #[(.str "_law_cell" 654), (.str "_law_far" 655), (.str "_law_size" 656), (.str "_law_parts" 657), (.str "_law_k" 658), (.str "_law_half" 659)] 0) #[])
def o355_15(P:Pz):=(sq0 "tuple" 0)
def o356_15(P:Pz):=(fo1 "_law_amount_by" "_law_amount_by" (top 48) 0 0)
def o357_15(P:Pz):=(cob "_law_amount_by" 651 "_law_amount_by" 652 653 158 1 0 0 3 352 true 181 353 (.ref 354) (.ref 355) (.ref 356) 660 158 661)
def o358_15(P:Pz):=(fo2 "_law_amount_by" "_law_amount_by" (top 48) 3 "law_spinboard_k25_boards_and_hefts" 607 357 0)
def o359_15(P:Pz):=(sq0 "tuple" 0)
def o360_15(P:Pz):=(nf0)
def o361_15(P:Pz):=(fo1 "_law_board_by" "_law_board_by" (top 49) 0 0)
def o362_15(P:Pz):=(cob "_law_board_by" 663 "_law_board_by" 664 665 178 3 0 0 3 359 true 181 360 .none .none (.ref 361) 666 178 667)
def o363_15(P:Pz):=(fo2 "_law_board_by" "_law_board_by" (top 49) 3 "law_spinboard_k25_boards_and_hefts" 607 362 0)
def T14 (P : Params) : BT := ((((((((((((((((((((((((((((((((((((((((((((((((((((((((((((((((((((((((((((((((((((T13 P).ins 3 (o3_15 P)).ins 12 (o12_15 P)).ins 283 (o283_15 P)).ins 284 (o284_15 P)).ins 285 (o285_15 P)).ins 286 (o286_15 P)).ins 287 (o287_15 P)).ins 288 (o288_15 P)).ins 289 (o289_15 P)).ins 290 (o290_15 P)).ins 291 (o291_15 P)).ins 292 (o292_15 P)).ins 293 (o293_15 P)).ins 294 (o294_15 P)).ins 295 (o295_15 P)).ins 296 (o296_15 P)).ins 297 (o297_15 P)).ins 298 (o298_15 P)).ins 299 (o299_15 P)).ins 300 (o300_15 P)).ins 301 (o301_15 P)).ins 302 (o302_15 P)).ins 303 (o303_15 P)).ins 304 (o304_15 P)).ins 305 (o305_15 P)).ins 306 (o306_15 P)).ins 307 (o307_15 P)).ins 308 (o308_15 P)).ins 309 (o309_15 P)).ins 310 (o310_15 P)).ins 311 (o311_15 P)).ins 312 (o312_15 P)).ins 313 (o313_15 P)).ins 314 (o314_15 P)).ins 315 (o315_15 P)).ins 316 (o316_15 P)).ins 317 (o317_15 P)).ins 318 (o318_15 P)).ins 319 (o319_15 P)).ins 320 (o320_15 P)).ins 321 (o321_15 P)).ins 322 (o322_15 P)).ins 323 (o323_15 P)).ins 324 (o324_15 P)).ins 325 (o325_15 P)).ins 326 (o326_15 P)).ins 327 (o327_15 P)).ins 328 (o328_15 P)).ins 329 (o329_15 P)).ins 330 (o330_15 P)).ins 331 (o331_15 P)).ins 332 (o332_15 P)).ins 333 (o333_15 P)).ins 334 (o334_15 P)).ins 335 (o335_15 P)).ins 336 (o336_15 P)).ins 337 (o337_15 P)).ins 338 (o338_15 P)).ins 339 (o339_15 P)).ins 340 (o340_15 P)).ins 341 (o341_15 P)).ins 342 (o342_15 P)).ins 343 (o343_15 P)).ins 344 (o344_15 P)).ins 345 (o345_15 P)).ins 346 (o346_15 P)).ins 347 (o347_15 P)).ins 348 (o348_15 P)).ins 349 (o349_15 P)).ins 350 (o350_15 P)).ins 351 (o351_15 P)).ins 352 (o352_15 P)).ins 353 (o353_15 P)).ins 354 (o354_15 P)).ins 355 (o355_15 P)).ins 356 (o356_15 P)).ins 357 (o357_15 P)).ins 358 (o358_15 P)).ins 359 (o359_15 P)).ins 360 (o360_15 P)).ins 361 (o361_15 P)).ins 362 (o362_15 P)).ins 363 (o363_15 P))
theorem g13 (p : Program) (b : List Stmt) (w : World) (os : OsState) : segRunT treeTable p w 11 (some (.ref 6)) 1 389 (SharedT.mk (T13 w.params) 283 life (Array.mk []) (Drawn.mk 0 0 0 0) 564 os) (piecesOf l13 en (Code.body b en) (Pos.mk 111 0 115 62) BB) = some (Flow.next, (SharedT.mk (T14 w.params) 364 life (Array.mk []) (Drawn.mk 0 0 0 0) 669 os), Code.body b en, (Pos.mk 178 0 184 21)) := by rw [PySem.W.Fast.te10110043849684766642, PySem.W.Fast.te14364793385576792824]; kernel_rfl
def o3_16(P:Pz):=Obj.mk (.type "dict") none (Data.dict #[(dn P "__name__" 165 (.str "law_spinboard_k25_boards_and_hefts" 607)), (dn P "__doc__" 166 .none), (dn P "__package__" 167 .none), (dn P "__loader__" 168 (.builtin "__main__.__loader__#opaque")), (dn P "__spec__" 169 .none), (dn P "__annotations__" 170 (.ref 6)), (dn P "__builtins__" 171 (.ref 4)), (dn P "__file__" 173 (.str "/claim/cut.py" 172)), (dn P "__cached__" 174 .none), (dn P "BoardError" 206 (.ref 24)), (dn P "NoShare" 222 (.ref 37)), (dn P "NoAmount" 238 (.ref 49)), (dn P "NoMark" 254 (.ref 61)), (dn P "NoBoard" 270 (.ref 73)), (dn P "NoMove" 286 (.ref 85)), (dn P "NoCell" 302 (.ref 97)), (dn P "NeverSo" 318 (.ref 109)), (dn P "NoTable" 334 (.ref 121)), (dn P "NoText" 359 (.ref 140)), (dn P "NotBorne" 384 (.ref 159)), (dn P "Unguarded" 411 (.ref 178)), (dn P "is_whole" 420 (.ref 187)), (dn P "share" 432 (.ref 195)), (dn P "common_divisor" 441 (.ref 202)), (dn P "is_amount" 449 (.ref 207)), (dn P "halved_out" 463 (.ref 214)), (dn P "plus" 469 (.ref 219)), (dn P "times" 475 (.ref 224)), (dn P "spun" 485 (.ref 231)), (dn P "spun_once" 492 (.ref 238)), (dn P "mirror" 499 (.ref 245)), (dn P "real_share" 506 (.ref 252)), (dn P "ones" 517 (.ref 259)), (dn P "is_word" 525 (.ref 266)), (dn P "NOUGHT" 533 (.ref 267)), (dn P "ONE" 539 (.ref 268)), (dn P "LENGTHS" 546 (.ref 269)), (dn P "MOST_CELLS" 548 (.int 6 547)), (dn P "start" 555 (.ref 275)), (dn P "check_beginning" 563 (.ref 282)), (dn P "board_of" 569 (.ref 287)), (dn P "cells_of" 576 (.ref 294)), (dn P "heft" 585 (.ref 301)), (dn P "scaled" 591 (.ref 306)), (dn P "laid_on" 597 (.ref 311)), (dn P "spun_by_mark" 606 (.ref 318)), (dn P "_law_cell_at" 616 (.ref 325)), (dn P "_law_whole" 623 (.ref 332)), (dn P "_law_cells_by" 630 (.ref 339)), (dn P "_law_low" 636 (.ref 344)), (dn P "_law_spin" 650 (.ref 351)), (dn P "_law_amount_by" 662 (.ref 358)), (dn P "_law_board_by" 668 (.ref 363)), (dn P "_law_amount_is" 677 (.ref 370)), (dn P "_law_board_is" 686 (.ref 377)), (dn P "_law_mark_by" 696 (.ref 384)), (dn P "_law_bits" 704 (.ref 391)), (dn P "_law_times" 717 (.ref 398)), (dn P "_law_spoiled" 734 (.ref 405)), (dn P "_law_bad_start" 745 (.ref 412)), (dn P "_law_refused" 755 (.ref 419)), (dn P "_law_divisor" 763 (.ref 426)), (dn P "_law_heft_is" 769 (.ref 431)), (dn P "_law_begun" 778 (.ref 438)), (dn P "law" 784 (.ref 443))] 65) #[]
def o12_16(P:Pz):=(Obj.mk .none none (Data.fields #[(.int 2 0), (.int 0 0), (.ref 20), (.int 4 0), (.int 0 0), (.ref 33), (.int 6 0), (.int 0 0), (.ref 45), (.int 8 0), (.int 0 0), (.ref 57), (.int 10 0), (.int 0 0), (.ref 69), (.int 12 0), (.int 0 0), (.ref 81), (.int 14 0), (.int 0 0), (.ref 93), (.int 16 0), (.int 0 0), (.ref 105), (.int 18 0), (.int 0 0), (.ref 117), (.int 20 0), (.int 0 0), (.ref 129), (.int 24 0), (.int 0 0), (.ref 148), (.int 28 0), (.int 0 0), (.ref 167), (.int 34 0), (.int 0 0), (.ref 186), (.int 36 0), (.int 0 0), (.ref 194), (.int 45 0), (.int 0 0), (.ref 201), (.int 52 0), (.int 0 0), (.ref 206), (.int 58 0), (.int 0 0), (.ref 213), (.int 65 0), (.int 0 0), (.ref 218), (.int 71 0), (.int 0 0), (.ref 223), (.int 78 0), (.int 0 0), (.ref 230), (.int 83 0), (.int 0 0), (.ref 237), (.int 85 0), (.int 0 0), (.ref 244), (.int 87 0), (.int 0 0), (.ref 251), (.int 92 0), (.int 0 0), (.ref 258), (.int 99 0), (.int 0 0), (.ref 265), (.int 108 0), (.int 0 0), (.ref 274), (.int 111 0), (.int 0 0), (.ref 281), (.int 116 0), (.int 0 0), (.ref 286), (.int 124 0), (.int 0 0), (.ref 293), (.int 126 0), (.int 0 0), (.ref 300), (.int 131 0), (.int 0 0), (.ref 305), (.int 133 0), (.int 0 0), (.ref 310), (.int 135 0), (.int 0 0), (.ref 317), (.int 138 0), (.int 0 0), (.ref 324), (.int 142 0), (.int 0 0), (.ref 331), (.int 144 0), (.int 0 0), (.ref 338), (.int 148 0), (.int 0 0), (.ref 343), (.int 153 0), (.int 0 0), (.ref 350), (.int 158 0), (.int 0 0), (.ref 357), (.int 178 0), (.int 0 0), (.ref 362), (.int 185 0), (.int 0 0), (.ref 369), (.int 192 0), (.int 0 0), (.ref 376), (.int 199 0), (.int 0 0), (.ref 383), (.int 203 0), (.int 0 0), (.ref 390), (.int 209 0), (.int 0 0), (.ref 397), (.int 217 0), (.int 0 0), (.ref 404), (.int 237 0), (.int 0 0), (.ref 411), (.int 243 0), (.int 0 0), (.ref 418), (.int 255 0), (.int 0 0), (.ref 425), (.int 261 0), (.int 0 0), (.ref 430), (.int 275 0), (.int 0 0), (.ref 437), (.int 283 0), (.int 0 0), (.ref 442)]) #[])
def o364_16(P:Pz):=(sq0 "tuple" 0)
def o365_16(P:Pz):=(nf0)
def o366_16(P:Pz):=(Obj.mk (.type "tuple") none (Data.seq #[(.str "_law_found" 672), (.str "_law_due" 673), (.str "_law_k" 674)] 0) #[])
def o367_16(P:Pz):=(sq0 "tuple" 0)
def o368_16(P:Pz):=(fo1 "_law_amount_is" "_law_amount_is" (top 50) 0 0)
def o369_16(P:Pz):=(cob "_law_amount_is" 669 "_law_amount_is" 670 671 185 2 0 0 3 364 true 181 365 (.ref 366) (.ref 367) (.ref 368) 675 185 676)
def o370_16(P:Pz):=(fo2 "_law_amount_is" "_law_amount_is" (top 50) 3 "law_spinboard_k25_boards_and_hefts" 607 369 0)
def o371_16(P:Pz):=(sq0 "tuple" 0)
def o372_16(P:Pz):=(nf0)
def o373_16(P:Pz):=(Obj.mk (.type "tuple") none (Data.seq #[(.str "_law_found" 681), (.str "_law_due" 682), (.str "_law_k" 683)] 0) #[])
def o374_16(P:Pz):=(sq0 "tuple" 0)
def o375_16(P:Pz):=(fo1 "_law_board_is" "_law_board_is" (top 51) 0 0)
def o376_16(P:Pz):=(cob "_law_board_is" 678 "_law_board_is" 679 680 192 2 0 0 3 371 true 181 372 (.ref 373) (.ref 374) (.ref 375) 684 192 685)
def o377_16(P:Pz):=(fo2 "_law_board_is" "_law_board_is" (top 51) 3 "law_spinboard_k25_boards_and_hefts" 607 376 0)
def o378_16(P:Pz):=(sq0 "tuple" 0)
def o379_16(P:Pz):=(nf0)
def o380_16(P:Pz):=(Obj.mk (.type "tuple") none (Data.seq #[(.str "_law_cell" 690), (.str "_law_cells" 691), (.str "_law_mixed_up" 692), (.str "_law_size" 693)] 0) #[])
def o381_16(P:Pz):=(sq0 "tuple" 0)
def o382_16(P:Pz):=(fo1 "_law_mark_by" "_law_mark_by" (top 52) 0 0)
def o383_16(P:Pz):=(cob "_law_mark_by" 687 "_law_mark_by" 688 689 199 2 0 0 3 378 true 181 379 (.ref 380) (.ref 381) (.ref 382) 694 199 695)
def o384_16(P:Pz):=(fo2 "_law_mark_by" "_law_mark_by" (top 52) 3 "law_spinboard_k25_boards_and_hefts" 607 383 0)
def o385_16(P:Pz):=(sq0 "tuple" 0)
def o386_16(P:Pz):=(nf0)
def o387_16(P:Pz):=(Obj.mk (.type "tuple") none (Data.seq #[(.str "_law_number" 700), (.str "_law_many" 701)] 0) #[])
def o388_16(P:Pz):=(sq0 "tuple" 0)
def o389_16(P:Pz):=(fo1 "_law_bits" "_law_bits" (top 53) 0 0)
def o390_16(P:Pz):=(cob "_law_bits" 697 "_law_bits" 698 699 203 1 0 0 3 385 true 181 386 (.ref 387) (.ref 388) (.ref 389) 702 203 703)
def o391_16(P:Pz):=(fo2 "_law_bits" "_law_bits" (top 53) 3 "law_spinboard_k25_boards_and_hefts" 607 390 0)
def o392_16(P:Pz):=(sq0 "tuple" 0)
def o393_16(P:Pz):=(nf0)
def o394_16(P:Pz):=(Obj.mk (.type "tuple") none (Data.seq #[(.str "_law_one" 708), (.str "_law_other" 709), (.str "_law_parts" 710), (.str "_law_j" 711), (.str "_law_k" 712), (.str "_law_at" 713), (.str "_law_sign" 714)] 0) #[])
def o395_16(P:Pz):=(sq0 "tuple" 0)
def o396_16(P:Pz):=(fo1 "_law_times" "_law_times" (top 54) 0 0)
def o397_16(P:Pz):=(cob "_law_times" 705 "_law_times" 706 707 209 2 0 0 3 392 true 181 393 (.ref 394) (.ref 395) (.ref 396) 715 209 716)
def o398_16(P:Pz):=(fo2 "_law_times" "_law_times" (top 54) 3 "law_spinboard_k25_boards_and_hefts" 607 397 0)
def o399_16(P:Pz):=(sq0 "tuple" 0)
def o400_16(P:Pz):=(nf0)
def o401_16(P:Pz):=(Obj.mk (.type "tuple") none (Data.seq #[(.str "_law_board" 721), (.str "_law_way" 722), (.str "_law_cell" 723), (.str "_law_place" 724), (.str "_law_a" 725), (.str "_law_b" 726), (.str "_law_c" 727), (.str "_law_d" 728), (.str "_law_h" 729), (.str "_law_many" 730), (.str "_law_odd" 731)] 0) #[])
def o402_16(P:Pz):=(sq0 "tuple" 0)
def o403_16(P:Pz):=(fo1 "_law_spoiled" "_law_spoiled" (top 55) 0 0)
def o404_16(P:Pz):=(cob "_law_spoiled" 718 "_law_spoiled" 719 720 217 3 0 0 3 399 true 181 400 (.ref 401) (.ref 402) (.ref 403) 732 217 733)
def o405_16(P:Pz):=(fo2 "_law_spoiled" "_law_spoiled" (top 55) 3 "law_spinboard_k25_boards_and_hefts" 607 404 0)
def o406_16(P:Pz):=(sq0 "tuple" 0)
def o407_16(P:Pz):=(nf0)
def o408_16(P:Pz):=(Obj.mk (.type "tuple") none (Data.seq #[(.str "_law_cells" 738), (.str "_law_cell" 739), (.str "_law_far" 740), (.str "_law_odd" 741), (.str "_law_some" 742)] 0) #[])
def o409_16(P:Pz):=(sq0 "tuple" 0)
def o410_16(P:Pz):=(fo1 "_law_bad_start" "_law_bad_start" (top 56) 0 0)
def o411_16(P:Pz):=(cob "_law_bad_start" 735 "_law_bad_start" 736 737 237 2 0 0 3 406 true 181 407 (.ref 408) (.ref 409) (.ref 410) 743 237 744)
def o412_16(P:Pz):=(fo2 "_law_bad_start" "_law_bad_start" (top 56) 3 "law_spinboard_k25_boards_and_hefts" 607 411 0)
def o413_16(P:Pz):=(sq0 "tuple" 0)
def o414_16(P:Pz):=(nf0)
def o415_16(P:Pz):=(Obj.mk (.type "tuple") none (Data.seq #[(.str "_law_way" 749), (.str "_law_thing" 750), (.str "e" 751), (.str "_law_others" 752)] 0) #[])
def o416_16(P:Pz):=(sq0 "tuple" 0)
def o417_16(P:Pz):=(fo1 "_law_refused" "_law_refused" (top 57) 0 0)
def o418_16(P:Pz):=(cob "_law_refused" 746 "_law_refused" 747 748 243 2 0 0 3 413 true 181 414 (.ref 415) (.ref 416) (.ref 417) 753 243 754)
def o419_16(P:Pz):=(fo2 "_law_refused" "_law_refused" (top 57) 3 "law_spinboard_k25_boards_and_hefts" 607 418 0)
def o420_16(P:Pz):=(sq0 "tuple" 0)
def o421_16(P:Pz):=(nf0)
def o422_16(P:Pz):=(Obj.mk (.type "tuple") none (Data.seq #[(.str "_law_one" 759), (.str "_law_other" 760)] 0) #[])
def o423_16(P:Pz):=(sq0 "tuple" 0)
def o424_16(P:Pz):=(fo1 "_law_divisor" "_law_divisor" (top 58) 0 0)
def o425_16(P:Pz):=(cob "_law_divisor" 756 "_law_divisor" 757 758 255 2 0 0 3 420 true 181 421 (.ref 422) (.ref 423) (.ref 424) 761 255 762)
def o426_16(P:Pz):=(fo2 "_law_divisor" "_law_divisor" (top 58) 3 "law_spinboard_k25_boards_and_hefts" 607 425 0)
def o427_16(P:Pz):=(sq0 "tuple" 0)
def o428_16(P:Pz):=(nf0)
def o429_16(P:Pz):=(fo1 "_law_heft_is" "_law_heft_is" (top 59) 0 0)
def o430_16(P:Pz):=(cob "_law_heft_is" 764 "_law_heft_is" 765 766 261 2 0 0 3 427 true 181 428 .none .none (.ref 429) 767 261 768)
def o431_16(P:Pz):=(fo2 "_law_heft_is" "_law_heft_is" (top 59) 3 "law_spinboard_k25_boards_and_hefts" 607 430 0)
def o432_16(P:Pz):=(sq0 "tuple" 0)
def o433_16(P:Pz):=(nf0)
def o434_16(P:Pz):=(Obj.mk (.type "tuple") none (Data.seq #[(.str "_law_cells" 773), (.str "_law_word" 774), (.str "_law_due" 775)] 0) #[])
def o435_16(P:Pz):=(sq0 "tuple" 0)
def o436_16(P:Pz):=(fo1 "_law_begun" "_law_begun" (top 60) 0 0)
def o437_16(P:Pz):=(cob "_law_begun" 770 "_law_begun" 771 772 275 2 0 0 3 432 true 181 433 (.ref 434) (.ref 435) (.ref 436) 776 275 777)
def o438_16(P:Pz):=(fo2 "_law_begun" "_law_begun" (top 60) 3 "law_spinboard_k25_boards_and_hefts" 607 437 0)
def o439_16(P:Pz):=(sq0 "tuple" 0)
def o440_16(P:Pz):=(nf0)
def o441_16(P:Pz):=(fo1 "law" "law" (top 61) 0 0)
def o442_16(P:Pz):=(cob "law" 779 "law" 780 781 283 1 0 0 3 439 true 181 440 .none .none (.ref 441) 782 283 783)
def o443_16(P:Pz):=(fo2 "law" "law" (top 61) 3 "law_spinboard_k25_boards_and_hefts" 607 442 0)
def T15 (P : Params) : BT := (((((((((((((((((((((((((((((((((((((((((((((((((((((((((((((((((((((((((((((((((((T14 P).ins 3 (o3_16 P)).ins 12 (o12_16 P)).ins 364 (o364_16 P)).ins 365 (o365_16 P)).ins 366 (o366_16 P)).ins 367 (o367_16 P)).ins 368 (o368_16 P)).ins 369 (o369_16 P)).ins 370 (o370_16 P)).ins 371 (o371_16 P)).ins 372 (o372_16 P)).ins 373 (o373_16 P)).ins 374 (o374_16 P)).ins 375 (o375_16 P)).ins 376 (o376_16 P)).ins 377 (o377_16 P)).ins 378 (o378_16 P)).ins 379 (o379_16 P)).ins 380 (o380_16 P)).ins 381 (o381_16 P)).ins 382 (o382_16 P)).ins 383 (o383_16 P)).ins 384 (o384_16 P)).ins 385 (o385_16 P)).ins 386 (o386_16 P)).ins 387 (o387_16 P)).ins 388 (o388_16 P)).ins 389 (o389_16 P)).ins 390 (o390_16 P)).ins 391 (o391_16 P)).ins 392 (o392_16 P)).ins 393 (o393_16 P)).ins 394 (o394_16 P)).ins 395 (o395_16 P)).ins 396 (o396_16 P)).ins 397 (o397_16 P)).ins 398 (o398_16 P)).ins 399 (o399_16 P)).ins 400 (o400_16 P)).ins 401 (o401_16 P)).ins 402 (o402_16 P)).ins 403 (o403_16 P)).ins 404 (o404_16 P)).ins 405 (o405_16 P)).ins 406 (o406_16 P)).ins 407 (o407_16 P)).ins 408 (o408_16 P)).ins 409 (o409_16 P)).ins 410 (o410_16 P)).ins 411 (o411_16 P)).ins 412 (o412_16 P)).ins 413 (o413_16 P)).ins 414 (o414_16 P)).ins 415 (o415_16 P)).ins 416 (o416_16 P)).ins 417 (o417_16 P)).ins 418 (o418_16 P)).ins 419 (o419_16 P)).ins 420 (o420_16 P)).ins 421 (o421_16 P)).ins 422 (o422_16 P)).ins 423 (o423_16 P)).ins 424 (o424_16 P)).ins 425 (o425_16 P)).ins 426 (o426_16 P)).ins 427 (o427_16 P)).ins 428 (o428_16 P)).ins 429 (o429_16 P)).ins 430 (o430_16 P)).ins 431 (o431_16 P)).ins 432 (o432_16 P)).ins 433 (o433_16 P)).ins 434 (o434_16 P)).ins 435 (o435_16 P)).ins 436 (o436_16 P)).ins 437 (o437_16 P)).ins 438 (o438_16 P)).ins 439 (o439_16 P)).ins 440 (o440_16 P)).ins 441 (o441_16 P)).ins 442 (o442_16 P)).ins 443 (o443_16 P))
theorem g14 (p : Program) (b : List Stmt) (w : World) (os : OsState) : segRunT treeTable p w 11 (some (.ref 6)) 1 377 (SharedT.mk (T14 w.params) 364 life (Array.mk []) (Drawn.mk 0 0 0 0) 669 os) (piecesOf l14 en (Code.body b en) (Pos.mk 178 0 184 21) BB) = some (Flow.next, (SharedT.mk (T15 w.params) 444 life (Array.mk []) (Drawn.mk 0 0 0 0) 785 os), Code.body b en, (Pos.mk 283 0 311 84)) := by rw [PySem.W.Fast.te10110043849684766642, PySem.W.Fast.te14364793385576792824]; kernel_rfl
def Hf (P : Params) : Heap := Heap.mk (Array.mk [(boot_o_0 P), (boot_o_1 P), (boot_o_2 P), (o3_16 P), (boot_o_4 P), (boot_o_5 P), (boot_o_6 P), (boot_o_7 P), (boot_o_8 P), (boot_o_9 P), (boot_o_10 P), (o11_0 P), (o12_16 P), (o13_0 P), (o14_0 P), (o15_2 P), (o16_2 P), (o17_2 P), (o18_2 P), (o19_2 P), (o20_2 P), (o21_2 P), (o22_2 P), (o23_2 P), (o24_13 P), (o25_2 P), (o26_2 P), (o27_2 P), (o28_3 P), (o29_3 P), (o30_3 P), (o31_3 P), (o32_3 P), (o33_3 P), (o34_3 P), (o35_3 P), (o36_3 P), (o37_3 P), (o38_3 P), (o39_3 P), (o40_4 P), (o41_4 P), (o42_4 P), (o43_4 P), (o44_4 P), (o45_4 P), (o46_4 P), (o47_4 P), (o48_4 P), (o49_4 P), (o50_4 P), (o51_4 P), (o52_5 P), (o53_5 P), (o54_5 P), (o55_5 P), (o56_5 P), (o57_5 P), (o58_5 P), (o59_5 P), (o60_5 P), (o61_5 P), (o62_5 P), (o63_5 P), (o64_6 P), (o65_6 P), (o66_6 P), (o67_6 P), (o68_6 P), (o69_6 P), (o70_6 P), (o71_6 P), (o72_6 P), (o73_6 P), (o74_6 P), (o75_6 P), (o76_7 P), (o77_7 P), (o78_7 P), (o79_7 P), (o80_7 P), (o81_7 P), (o82_7 P), (o83_7 P), (o84_7 P), (o85_7 P), (o86_7 P), (o87_7 P), (o88_8 P), (o89_8 P), (o90_8 P), (o91_8 P), (o92_8 P), (o93_8 P), (o94_8 P), (o95_8 P), (o96_8 P), (o97_8 P), (o98_8 P), (o99_8 P), (o100_9 P), (o101_9 P), (o102_9 P), (o103_9 P), (o104_9 P), (o105_9 P), (o106_9 P), (o107_9 P), (o108_9 P), (o109_9 P), (o110_9 P), (o111_9 P), (o112_10 P), (o113_10 P), (o114_10 P), (o115_10 P), (o116_10 P), (o117_10 P), (o118_10 P), (o119_10 P), (o120_10 P), (o121_10 P), (o122_10 P), (o123_10 P), (o124_11 P), (o125_11 P), (o126_11 P), (o127_11 P), (o128_11 P), (o129_11 P), (o130_11 P), (o131_11 P), (o132_11 P), (o133_11 P), (o134_11 P), (o135_11 P), (o136_11 P), (o137_11 P), (o138_11 P), (o139_11 P), (o140_11 P), (o141_11 P), (o142_11 P), (o143_12 P), (o144_12 P), (o145_12 P), (o146_12 P), (o147_12 P), (o148_12 P), (o149_12 P), (o150_12 P), (o151_12 P), (o152_12 P), (o153_12 P), (o154_12 P), (o155_12 P), (o156_12 P), (o157_12 P), (o158_12 P), (o159_12 P), (o160_12 P), (o161_12 P), (o162_13 P), (o163_13 P), (o164_13 P), (o165_13 P), (o166_13 P), (o167_13 P), (o168_13 P), (o169_13 P), (o170_13 P), (o171_13 P), (o172_13 P), (o173_13 P), (o174_13 P), (o175_13 P), (o176_13 P), (o177_13 P), (o178_13 P), (o179_13 P), (o180_13 P), (o181_13 P), (o182_13 P), (o183_13 P), (o184_13 P), (o185_13 P), (o186_13 P), (o187_13 P), (o188_13 P), (o189_13 P), (o190_13 P), (o191_13 P), (o192_13 P), (o193_13 P), (o194_13 P), (o195_13 P), (o196_13 P), (o197_13 P), (o198_13 P), (o199_13 P), (o200_13 P), (o201_13 P), (o202_13 P), (o203_13 P), (o204_13 P), (o205_13 P), (o206_13 P), (o207_13 P), (o208_14 P), (o209_14 P), (o210_14 P), (o211_14 P), (o212_14 P), (o213_14 P), (o214_14 P), (o215_14 P), (o216_14 P), (o217_14 P), (o218_14 P), (o219_14 P), (o220_14 P), (o221_14 P), (o222_14 P), (o223_14 P), (o224_14 P), (o225_14 P), (o226_14 P), (o227_14 P), (o228_14 P), (o229_14 P), (o230_14 P), (o231_14 P), (o232_14 P), (o233_14 P), (o234_14 P), (o235_14 P), (o236_14 P), (o237_14 P), (o238_14 P), (o239_14 P), (o240_14 P), (o241_14 P), (o242_14 P), (o243_14 P), (o244_14 P), (o245_14 P), (o246_14 P), (o247_14 P), (o248_14 P), (o249_14 P), (o250_14 P), (o251_14 P), (o252_14 P), (o253_14 P), (o254_14 P), (o255_14 P), (o256_14 P), (o257_14 P), (o258_14 P), (o259_14 P), (o260_14 P), (o261_14 P), (o262_14 P), (o263_14 P), (o264_14 P), (o265_14 P), (o266_14 P), (o267_14 P), (o268_14 P), (o269_14 P), (o270_14 P), (o271_14 P), (o272_14 P), (o273_14 P), (o274_14 P), (o275_14 P), (o276_14 P), (o277_14 P), (o278_14 P), (o279_14 P), (o280_14 P), (o281_14 P), (o282_14 P), (o283_15 P), (o284_15 P), (o285_15 P), (o286_15 P), (o287_15 P), (o288_15 P), (o289_15 P), (o290_15 P), (o291_15 P), (o292_15 P), (o293_15 P), (o294_15 P), (o295_15 P), (o296_15 P), (o297_15 P), (o298_15 P), (o299_15 P), (o300_15 P), (o301_15 P), (o302_15 P), (o303_15 P), (o304_15 P), (o305_15 P), (o306_15 P), (o307_15 P), (o308_15 P), (o309_15 P), (o310_15 P), (o311_15 P), (o312_15 P), (o313_15 P), (o314_15 P), (o315_15 P), (o316_15 P), (o317_15 P), (o318_15 P), (o319_15 P), (o320_15 P), (o321_15 P), (o322_15 P), (o323_15 P), (o324_15 P), (o325_15 P), (o326_15 P), (o327_15 P), (o328_15 P), (o329_15 P), (o330_15 P), (o331_15 P), (o332_15 P), (o333_15 P), (o334_15 P), (o335_15 P), (o336_15 P), (o337_15 P), (o338_15 P), (o339_15 P), (o340_15 P), (o341_15 P), (o342_15 P), (o343_15 P), (o344_15 P), (o345_15 P), (o346_15 P), (o347_15 P), (o348_15 P), (o349_15 P), (o350_15 P), (o351_15 P), (o352_15 P), (o353_15 P), (o354_15 P), (o355_15 P), (o356_15 P), (o357_15 P), (o358_15 P), (o359_15 P), (o360_15 P), (o361_15 P), (o362_15 P), (o363_15 P), (o364_16 P), (o365_16 P), (o366_16 P), (o367_16 P), (o368_16 P), (o369_16 P), (o370_16 P), (o371_16 P), (o372_16 P), (o373_16 P), (o374_16 P), (o375_16 P), (o376_16 P), (o377_16 P), (o378_16 P), (o379_16 P), (o380_16 P), (o381_16 P), (o382_16 P), (o383_16 P), (o384_16 P), (o385_16 P), (o386_16 P), (o387_16 P), (o388_16 P), (o389_16 P), (o390_16 P), (o391_16 P), (o392_16 P), (o393_16 P), (o394_16 P), (o395_16 P), (o396_16 P), (o397_16 P), (o398_16 P), (o399_16 P), (o400_16 P), (o401_16 P), (o402_16 P), (o403_16 P), (o404_16 P), (o405_16 P), (o406_16 P), (o407_16 P), (o408_16 P), (o409_16 P), (o410_16 P), (o411_16 P), (o412_16 P), (o413_16 P), (o414_16 P), (o415_16 P), (o416_16 P), (o417_16 P), (o418_16 P), (o419_16 P), (o420_16 P), (o421_16 P), (o422_16 P), (o423_16 P), (o424_16 P), (o425_16 P), (o426_16 P), (o427_16 P), (o428_16 P), (o429_16 P), (o430_16 P), (o431_16 P), (o432_16 P), (o433_16 P), (o434_16 P), (o435_16 P), (o436_16 P), (o437_16 P), (o438_16 P), (o439_16 P), (o440_16 P), (o441_16 P), (o442_16 P), (o443_16 P)]) life
theorem fin_ (w : World) (os : OsState) : topRun treeTable pr w 11 (some (.ref 6)) 2 ((SharedT.mk (T15 w.params) 444 life (Array.mk []) (Drawn.mk 0 0 0 0) 785 os).abs) (Thread.mk (doneF .next) cE (Pos.mk 283 0 311 84) BB) = some (Shared.mk (Hf w.params) (Array.mk []) (Drawn.mk 0 0 0 0) 785 os) := by rw [PySem.W.Fast.te14082659384304107361, PySem.W.Fast.te14364793385576792824]; kernel_rfl
abbrev MM : Nat := 12 + (1 + (196 + (214 + (214 + (214 + (214 + (214 + (214 + (214 + (214 + (246 + (246 + (387 + (400 + (389 + (377 + 2))))))))))))))))
theorem run_ (w : World) (os : OsState) : topRun treeTable pr w 11 (some (.ref 6)) MM (Shared.mk (boot_heap w.params) (Array.mk []) boot_drawn boot_toks os) (topStub pr) = some (Shared.mk (Hf w.params) (Array.mk []) (Drawn.mk 0 0 0 0) 785 os) := go_top (pre_ w os) (piece_block (block_ w os) (piece_app (segRun_of (g0 _ _ w os)) (piece_app (segRun_of (g1 _ _ w os)) (piece_app (segRun_of (g2 _ _ w os)) (piece_app (segRun_of (g3 _ _ w os)) (piece_app (segRun_of (g4 _ _ w os)) (piece_app (segRun_of (g5 _ _ w os)) (piece_app (segRun_of (g6 _ _ w os)) (piece_app (segRun_of (g7 _ _ w os)) (piece_app (segRun_of (g8 _ _ w os)) (piece_app (segRun_of (g9 _ _ w os)) (piece_app (segRun_of (g10 _ _ w os)) (piece_app (segRun_of (g11 _ _ w os)) (piece_app (segRun_of (g12 _ _ w os)) (piece_app (segRun_of (g13 _ _ w os)) (piece_app (segRun_of (g14 _ _ w os)) (piece_nil (fin_ w os))))))))))))))))))
def qq : Program := { pr with main := { pr.main with body := [top 1, top 2, top 3, top 4, top 5, top 6, top 7, top 8, top 9, top 10, top 11, top 12, top 14, top 16, top 18, top 19, top 20, top 21, top 22, top 23, top 24, top 25, top 27, top 28, top 30, top 31, top 32, top 33, top 35, top 36, top 37, top 38, top 39, top 40, top 41, top 43, top 44, top 45, top 46, top 47, top 48, top 49, top 50, top 51, top 52, top 53, top 54, top 55, top 56, top 57, top 58, top 59, top 60, top 61] } }
def loose : List PySem.Str := [Str.ofString "share", Str.ofString "start"]
def lv : List (PySem.Str × WData) := []
abbrev NN : Nat := 8002
def KK (P : Params) : Frag := [(2, (boot_o_2 P)), (3, (o3_16 P)), (15, (o15_2 P)), (22, (o22_2 P)), (23, (o23_2 P)), (24, (o24_13 P)), (25, (o25_2 P)), (28, (o28_3 P)), (35, (o35_3 P)), (36, (o36_3 P)), (37, (o37_3 P)), (40, (o40_4 P)), (47, (o47_4 P)), (48, (o48_4 P)), (49, (o49_4 P)), (52, (o52_5 P)), (59, (o59_5 P)), (60, (o60_5 P)), (61, (o61_5 P)), (64, (o64_6 P)), (71, (o71_6 P)), (72, (o72_6 P)), (73, (o73_6 P)), (76, (o76_7 P)), (83, (o83_7 P)), (84, (o84_7 P)), (85, (o85_7 P)), (88, (o88_8 P)), (95, (o95_8 P)), (96, (o96_8 P)), (97, (o97_8 P)), (100, (o100_9 P)), (107, (o107_9 P)), (108, (o108_9 P)), (109, (o109_9 P)), (112, (o112_10 P)), (119, (o119_10 P)), (120, (o120_10 P)), (121, (o121_10 P)), (124, (o124_11 P)), (131, (o131_11 P)), (133, (o133_11 P)), (134, (o134_11 P)), (136, (o136_11 P)), (137, (o137_11 P)), (138, (o138_11 P)), (139, (o139_11 P)), (140, (o140_11 P)), (143, (o143_12 P)), (150, (o150_12 P)), (152, (o152_12 P)), (153, (o153_12 P)), (155, (o155_12 P)), (156, (o156_12 P)), (157, (o157_12 P)), (158, (o158_12 P)), (159, (o159_12 P)), (162, (o162_13 P)), (169, (o169_13 P)), (171, (o171_13 P)), (172, (o172_13 P)), (174, (o174_13 P)), (175, (o175_13 P)), (176, (o176_13 P)), (177, (o177_13 P)), (178, (o178_13 P)), (181, (o181_13 P)), (183, (o183_13 P)), (184, (o184_13 P)), (186, (o186_13 P)), (187, (o187_13 P)), (188, (o188_13 P)), (189, (o189_13 P)), (191, (o191_13 P)), (192, (o192_13 P)), (194, (o194_13 P)), (195, (o195_13 P)), (196, (o196_13 P)), (198, (o198_13 P)), (199, (o199_13 P)), (201, (o201_13 P)), (202, (o202_13 P)), (203, (o203_13 P)), (206, (o206_13 P)), (207, (o207_13 P)), (208, (o208_14 P)), (210, (o210_14 P)), (211, (o211_14 P)), (213, (o213_14 P)), (214, (o214_14 P)), (215, (o215_14 P)), (218, (o218_14 P)), (219, (o219_14 P)), (220, (o220_14 P)), (223, (o223_14 P)), (224, (o224_14 P)), (225, (o225_14 P)), (227, (o227_14 P)), (228, (o228_14 P)), (230, (o230_14 P)), (231, (o231_14 P)), (232, (o232_14 P)), (234, (o234_14 P)), (235, (o235_14 P)), (237, (o237_14 P)), (238, (o238_14 P)), (239, (o239_14 P)), (241, (o241_14 P)), (242, (o242_14 P)), (244, (o244_14 P)), (245, (o245_14 P)), (246, (o246_14 P)), (248, (o248_14 P)), (249, (o249_14 P)), (251, (o251_14 P)), (252, (o252_14 P)), (253, (o253_14 P)), (255, (o255_14 P)), (256, (o256_14 P)), (258, (o258_14 P)), (259, (o259_14 P)), (260, (o260_14 P)), (262, (o262_14 P)), (263, (o263_14 P)), (265, (o265_14 P)), (266, (o266_14 P)), (267, (o267_14 P)), (268, (o268_14 P)), (269, (o269_14 P)), (270, (o270_14 P)), (271, (o271_14 P)), (274, (o274_14 P)), (275, (o275_14 P)), (276, (o276_14 P)), (278, (o278_14 P)), (279, (o279_14 P)), (281, (o281_14 P)), (282, (o282_14 P)), (283, (o283_15 P)), (286, (o286_15 P)), (287, (o287_15 P)), (288, (o288_15 P)), (290, (o290_15 P)), (291, (o291_15 P)), (293, (o293_15 P)), (294, (o294_15 P)), (295, (o295_15 P)), (297, (o297_15 P)), (298, (o298_15 P)), (300, (o300_15 P)), (301, (o301_15 P)), (302, (o302_15 P)), (305, (o305_15 P)), (306, (o306_15 P)), (307, (o307_15 P)), (310, (o310_15 P)), (311, (o311_15 P)), (312, (o312_15 P)), (314, (o314_15 P)), (315, (o315_15 P)), (317, (o317_15 P)), (318, (o318_15 P)), (319, (o319_15 P)), (321, (o321_15 P)), (322, (o322_15 P)), (324, (o324_15 P)), (325, (o325_15 P)), (326, (o326_15 P)), (328, (o328_15 P)), (329, (o329_15 P)), (331, (o331_15 P)), (332, (o332_15 P)), (333, (o333_15 P)), (335, (o335_15 P)), (336, (o336_15 P)), (338, (o338_15 P)), (339, (o339_15 P)), (340, (o340_15 P)), (343, (o343_15 P)), (344, (o344_15 P)), (345, (o345_15 P)), (347, (o347_15 P)), (348, (o348_15 P)), (350, (o350_15 P)), (351, (o351_15 P)), (352, (o352_15 P)), (354, (o354_15 P)), (355, (o355_15 P)), (357, (o357_15 P)), (358, (o358_15 P)), (359, (o359_15 P)), (362, (o362_15 P)), (363, (o363_15 P)), (364, (o364_16 P)), (366, (o366_16 P)), (367, (o367_16 P)), (369, (o369_16 P)), (370, (o370_16 P)), (371, (o371_16 P)), (373, (o373_16 P)), (374, (o374_16 P)), (376, (o376_16 P)), (377, (o377_16 P)), (378, (o378_16 P)), (380, (o380_16 P)), (381, (o381_16 P)), (383, (o383_16 P)), (384, (o384_16 P)), (392, (o392_16 P)), (394, (o394_16 P)), (395, (o395_16 P)), (397, (o397_16 P)), (398, (o398_16 P)), (399, (o399_16 P)), (401, (o401_16 P)), (402, (o402_16 P)), (404, (o404_16 P)), (405, (o405_16 P)), (406, (o406_16 P)), (408, (o408_16 P)), (409, (o409_16 P)), (411, (o411_16 P)), (412, (o412_16 P)), (413, (o413_16 P)), (415, (o415_16 P)), (416, (o416_16 P)), (418, (o418_16 P)), (419, (o419_16 P)), (420, (o420_16 P)), (422, (o422_16 P)), (423, (o423_16 P)), (425, (o425_16 P)), (426, (o426_16 P)), (427, (o427_16 P)), (430, (o430_16 P)), (431, (o431_16 P)), (432, (o432_16 P)), (434, (o434_16 P)), (435, (o435_16 P)), (437, (o437_16 P)), (438, (o438_16 P)), (439, (o439_16 P)), (442, (o442_16 P)), (443, (o443_16 P))]
def aa : List Addr := [2, 3, 15, 22, 23, 24, 25, 28, 35, 36, 37, 40, 47, 48, 49, 52, 59, 60, 61, 64, 71, 72, 73, 76, 83, 84, 85, 88, 95, 96, 97, 100, 107, 108, 109, 112, 119, 120, 121, 124, 131, 133, 134, 136, 137, 138, 139, 140, 143, 150, 152, 153, 155, 156, 157, 158, 159, 162, 169, 171, 172, 174, 175, 176, 177, 178, 181, 183, 184, 186, 187, 188, 189, 191, 192, 194, 195, 196, 198, 199, 201, 202, 203, 206, 207, 208, 210, 211, 213, 214, 215, 218, 219, 220, 223, 224, 225, 227, 228, 230, 231, 232, 234, 235, 237, 238, 239, 241, 242, 244, 245, 246, 248, 249, 251, 252, 253, 255, 256, 258, 259, 260, 262, 263, 265, 266, 267, 268, 269, 270, 271, 274, 275, 276, 278, 279, 281, 282, 283, 286, 287, 288, 290, 291, 293, 294, 295, 297, 298, 300, 301, 302, 305, 306, 307, 310, 311, 312, 314, 315, 317, 318, 319, 321, 322, 324, 325, 326, 328, 329, 331, 332, 333, 335, 336, 338, 339, 340, 343, 344, 345, 347, 348, 350, 351, 352, 354, 355, 357, 358, 359, 362, 363, 364, 366, 367, 369, 370, 371, 373, 374, 376, 377, 378, 380, 381, 383, 384, 392, 394, 395, 397, 398, 399, 401, 402, 404, 405, 406, 408, 409, 411, 412, 413, 415, 416, 418, 419, 420, 422, 423, 425, 426, 427, 430, 431, 432, 434, 435, 437, 438, 439, 442, 443]
theorem open_ : ∀ w : World, (fencedOpening treeTable pr w NN).map (fun s => (s.heap, s.gens, s.drawn, s.toks)) = some (boot_heap w.params, Array.mk [], boot_drawn, boot_toks) :=
  boot_open (p := pr) (N := NN) (by kernel_rfl) (by kernel_rfl) (fun s => by kernel_rfl)
theorem size_ (w : World) : ((boot_heap w.params).isNs mainGlobals && (Array.mk [] : Array GenState).size == 0, (boot_heap w.params).objs.size, (boot_heap w.params).nsMap mainGlobals "__annotations__") = (true, 11, ((some (.ref 6)) : Option Value)) := by kernel_rfl
theorem le_ : Nat.ble MM NN = true := by kernel_rfl
abbrev rr : OpenRow := PySem.Challenge.rw_spinboard_k25_boards_and_hefts.row
abbrev HH : Hook := kHook KK aa (fun _ => by kernel_rfl)
abbrev Xt (s : Shared) : Bool := xlAt qq lv s && recOk (RowW.records rr.toRowW) s
abbrev sf (w : World) (os : OsState) : Shared := Shared.mk (Hf w.params) (Array.mk []) (Drawn.mk 0 0 0 0) 785 os
theorem lk1 (w : World) (os : OsState) : (staticsOk (importedModules pr.main.body) (boot_heap w.params) (Hf w.params) && namesBound pr (Hf w.params) && gensDone (sf w os) && laidKept (boot_heap w.params) (Hf w.params)) = true := by rw [PySem.W.Fast.te5923862056798008813]; kernel_rfl
theorem lk2 (w : World) (os : OsState) : openSeen qq loose (importedModules pr.main.body) Xt true (sf w os) = openGood qq loose := by rw [PySem.W.Fast.te4187177175401517315, PySem.W.Fast.te5923862056798008813]; kernel_rfl
theorem lk3 (w : World) (os : OsState) : HH.obs (sf w os) = HH.val w := by kernel_rfl
theorem left_ : LeftO pr qq loose Xt HH.obs HH.val NN :=
  LeftO.of_pieces (H₀ := boot_heap) (H₁ := Hf) open_ size_ run_ le_ fun w => funext fun os => looks_pair (lk1 w os) (looks_pair (lk2 w os) (lk3 w os))
theorem said_ : PySem.Challenge.rw_spinboard_k25_boards_and_hefts.wellSaid = true := by rw [PySem.W.Fast.te9446332074065402090]; kernel_rfl
theorem k443 (P : Params) : (KK P).lookup 443 = some (o443_16 P) := by kernel_rfl
theorem k187 (P : Params) : (KK P).lookup 187 = some (o187_13 P) := by kernel_rfl
theorem k195 (P : Params) : (KK P).lookup 195 = some (o195_13 P) := by kernel_rfl
theorem k202 (P : Params) : (KK P).lookup 202 = some (o202_13 P) := by kernel_rfl
theorem k207 (P : Params) : (KK P).lookup 207 = some (o207_13 P) := by kernel_rfl
theorem k214 (P : Params) : (KK P).lookup 214 = some (o214_14 P) := by kernel_rfl
theorem k219 (P : Params) : (KK P).lookup 219 = some (o219_14 P) := by kernel_rfl
theorem k224 (P : Params) : (KK P).lookup 224 = some (o224_14 P) := by kernel_rfl
theorem k231 (P : Params) : (KK P).lookup 231 = some (o231_14 P) := by kernel_rfl
theorem k238 (P : Params) : (KK P).lookup 238 = some (o238_14 P) := by kernel_rfl
theorem k245 (P : Params) : (KK P).lookup 245 = some (o245_14 P) := by kernel_rfl
theorem k252 (P : Params) : (KK P).lookup 252 = some (o252_14 P) := by kernel_rfl
theorem k259 (P : Params) : (KK P).lookup 259 = some (o259_14 P) := by kernel_rfl
theorem k266 (P : Params) : (KK P).lookup 266 = some (o266_14 P) := by kernel_rfl
theorem k275 (P : Params) : (KK P).lookup 275 = some (o275_14 P) := by kernel_rfl
theorem k282 (P : Params) : (KK P).lookup 282 = some (o282_14 P) := by kernel_rfl
theorem k287 (P : Params) : (KK P).lookup 287 = some (o287_15 P) := by kernel_rfl
theorem k294 (P : Params) : (KK P).lookup 294 = some (o294_15 P) := by kernel_rfl
theorem k301 (P : Params) : (KK P).lookup 301 = some (o301_15 P) := by kernel_rfl
theorem k306 (P : Params) : (KK P).lookup 306 = some (o306_15 P) := by kernel_rfl
theorem k311 (P : Params) : (KK P).lookup 311 = some (o311_15 P) := by kernel_rfl
theorem k318 (P : Params) : (KK P).lookup 318 = some (o318_15 P) := by kernel_rfl
theorem k325 (P : Params) : (KK P).lookup 325 = some (o325_15 P) := by kernel_rfl
theorem k332 (P : Params) : (KK P).lookup 332 = some (o332_15 P) := by kernel_rfl
theorem k339 (P : Params) : (KK P).lookup 339 = some (o339_15 P) := by kernel_rfl
theorem k344 (P : Params) : (KK P).lookup 344 = some (o344_15 P) := by kernel_rfl
theorem k351 (P : Params) : (KK P).lookup 351 = some (o351_15 P) := by kernel_rfl
theorem k358 (P : Params) : (KK P).lookup 358 = some (o358_15 P) := by kernel_rfl
theorem k363 (P : Params) : (KK P).lookup 363 = some (o363_15 P) := by kernel_rfl
theorem k370 (P : Params) : (KK P).lookup 370 = some (o370_16 P) := by kernel_rfl
theorem k377 (P : Params) : (KK P).lookup 377 = some (o377_16 P) := by kernel_rfl
theorem k384 (P : Params) : (KK P).lookup 384 = some (o384_16 P) := by kernel_rfl
theorem k398 (P : Params) : (KK P).lookup 398 = some (o398_16 P) := by kernel_rfl
theorem k405 (P : Params) : (KK P).lookup 405 = some (o405_16 P) := by kernel_rfl
theorem k412 (P : Params) : (KK P).lookup 412 = some (o412_16 P) := by kernel_rfl
theorem k419 (P : Params) : (KK P).lookup 419 = some (o419_16 P) := by kernel_rfl
theorem k426 (P : Params) : (KK P).lookup 426 = some (o426_16 P) := by kernel_rfl
theorem k431 (P : Params) : (KK P).lookup 431 = some (o431_16 P) := by kernel_rfl
theorem k438 (P : Params) : (KK P).lookup 438 = some (o438_16 P) := by kernel_rfl
theorem k73 (P : Params) : (KK P).lookup 73 = some (o73_6 P) := by kernel_rfl
theorem k24 (P : Params) : (KK P).lookup 24 = some (o24_13 P) := by kernel_rfl
theorem k267 (P : Params) : (KK P).lookup 267 = some (o267_14 P) := by kernel_rfl
theorem k268 (P : Params) : (KK P).lookup 268 = some (o268_14 P) := by kernel_rfl
theorem k269 (P : Params) : (KK P).lookup 269 = some (o269_14 P) := by kernel_rfl
theorem k270 (P : Params) : (KK P).lookup 270 = some (o270_14 P) := by kernel_rfl
theorem k188 (P : Params) : (KK P).lookup 188 = some (o188_13 P) := by kernel_rfl
theorem f14 (P : Params) : FunAt (KK P) "is_whole" (top 14) .none := fat (f := 187) (by kernel_rfl) (k187 P) (by kernel_rfl) (by kernel_rfl)
theorem f15 (P : Params) : FunAt (KK P) "share" (top 15) (.ref 188) := fat (f := 195) (by kernel_rfl) (k195 P) (by kernel_rfl) (by kernel_rfl)
theorem f16 (P : Params) : FunAt (KK P) "common_divisor" (top 16) .none := fat (f := 202) (by kernel_rfl) (k202 P) (by kernel_rfl) (by kernel_rfl)
theorem f18 (P : Params) : FunAt (KK P) "is_amount" (top 18) .none := fat (f := 207) (by kernel_rfl) (k207 P) (by kernel_rfl) (by kernel_rfl)
theorem f19 (P : Params) : FunAt (KK P) "halved_out" (top 19) .none := fat (f := 214) (by kernel_rfl) (k214 P) (by kernel_rfl) (by kernel_rfl)
theorem f20 (P : Params) : FunAt (KK P) "plus" (top 20) .none := fat (f := 219) (by kernel_rfl) (k219 P) (by kernel_rfl) (by kernel_rfl)
theorem f21 (P : Params) : FunAt (KK P) "times" (top 21) .none := fat (f := 224) (by kernel_rfl) (k224 P) (by kernel_rfl) (by kernel_rfl)
theorem f22 (P : Params) : FunAt (KK P) "spun" (top 22) .none := fat (f := 231) (by kernel_rfl) (k231 P) (by kernel_rfl) (by kernel_rfl)
theorem f23 (P : Params) : FunAt (KK P) "spun_once" (top 23) .none := fat (f := 238) (by kernel_rfl) (k238 P) (by kernel_rfl) (by kernel_rfl)
theorem f24 (P : Params) : FunAt (KK P) "mirror" (top 24) .none := fat (f := 245) (by kernel_rfl) (k245 P) (by kernel_rfl) (by kernel_rfl)
theorem f25 (P : Params) : FunAt (KK P) "real_share" (top 25) .none := fat (f := 252) (by kernel_rfl) (k252 P) (by kernel_rfl) (by kernel_rfl)
theorem f27 (P : Params) : FunAt (KK P) "ones" (top 27) .none := fat (f := 259) (by kernel_rfl) (k259 P) (by kernel_rfl) (by kernel_rfl)
theorem f28 (P : Params) : FunAt (KK P) "is_word" (top 28) .none := fat (f := 266) (by kernel_rfl) (k266 P) (by kernel_rfl) (by kernel_rfl)
theorem f34 (P : Params) : FunAt (KK P) "start" (top 34) (.ref 270) := fat (f := 275) (by kernel_rfl) (k275 P) (by kernel_rfl) (by kernel_rfl)
theorem f35 (P : Params) : FunAt (KK P) "check_beginning" (top 35) .none := fat (f := 282) (by kernel_rfl) (k282 P) (by kernel_rfl) (by kernel_rfl)
theorem f36 (P : Params) : FunAt (KK P) "board_of" (top 36) .none := fat (f := 287) (by kernel_rfl) (k287 P) (by kernel_rfl) (by kernel_rfl)
theorem f37 (P : Params) : FunAt (KK P) "cells_of" (top 37) .none := fat (f := 294) (by kernel_rfl) (k294 P) (by kernel_rfl) (by kernel_rfl)
theorem f38 (P : Params) : FunAt (KK P) "heft" (top 38) .none := fat (f := 301) (by kernel_rfl) (k301 P) (by kernel_rfl) (by kernel_rfl)
theorem f39 (P : Params) : FunAt (KK P) "scaled" (top 39) .none := fat (f := 306) (by kernel_rfl) (k306 P) (by kernel_rfl) (by kernel_rfl)
theorem f40 (P : Params) : FunAt (KK P) "laid_on" (top 40) .none := fat (f := 311) (by kernel_rfl) (k311 P) (by kernel_rfl) (by kernel_rfl)
theorem f41 (P : Params) : FunAt (KK P) "spun_by_mark" (top 41) .none := fat (f := 318) (by kernel_rfl) (k318 P) (by kernel_rfl) (by kernel_rfl)
theorem f43 (P : Params) : FunAt (KK P) "_law_cell_at" (top 43) .none := fat (f := 325) (by kernel_rfl) (k325 P) (by kernel_rfl) (by kernel_rfl)
theorem f44 (P : Params) : FunAt (KK P) "_law_whole" (top 44) .none := fat (f := 332) (by kernel_rfl) (k332 P) (by kernel_rfl) (by kernel_rfl)
theorem f45 (P : Params) : FunAt (KK P) "_law_cells_by" (top 45) .none := fat (f := 339) (by kernel_rfl) (k339 P) (by kernel_rfl) (by kernel_rfl)
theorem f46 (P : Params) : FunAt (KK P) "_law_low" (top 46) .none := fat (f := 344) (by kernel_rfl) (k344 P) (by kernel_rfl) (by kernel_rfl)
theorem f47 (P : Params) : FunAt (KK P) "_law_spin" (top 47) .none := fat (f := 351) (by kernel_rfl) (k351 P) (by kernel_rfl) (by kernel_rfl)
theorem f48 (P : Params) : FunAt (KK P) "_law_amount_by" (top 48) .none := fat (f := 358) (by kernel_rfl) (k358 P) (by kernel_rfl) (by kernel_rfl)
theorem f49 (P : Params) : FunAt (KK P) "_law_board_by" (top 49) .none := fat (f := 363) (by kernel_rfl) (k363 P) (by kernel_rfl) (by kernel_rfl)
theorem f50 (P : Params) : FunAt (KK P) "_law_amount_is" (top 50) .none := fat (f := 370) (by kernel_rfl) (k370 P) (by kernel_rfl) (by kernel_rfl)
theorem f51 (P : Params) : FunAt (KK P) "_law_board_is" (top 51) .none := fat (f := 377) (by kernel_rfl) (k377 P) (by kernel_rfl) (by kernel_rfl)
theorem f52 (P : Params) : FunAt (KK P) "_law_mark_by" (top 52) .none := fat (f := 384) (by kernel_rfl) (k384 P) (by kernel_rfl) (by kernel_rfl)
theorem f54 (P : Params) : FunAt (KK P) "_law_times" (top 54) .none := fat (f := 398) (by kernel_rfl) (k398 P) (by kernel_rfl) (by kernel_rfl)
theorem f55 (P : Params) : FunAt (KK P) "_law_spoiled" (top 55) .none := fat (f := 405) (by kernel_rfl) (k405 P) (by kernel_rfl) (by kernel_rfl)
theorem f56 (P : Params) : FunAt (KK P) "_law_bad_start" (top 56) .none := fat (f := 412) (by kernel_rfl) (k412 P) (by kernel_rfl) (by kernel_rfl)
theorem f57 (P : Params) : FunAt (KK P) "_law_refused" (top 57) .none := fat (f := 419) (by kernel_rfl) (k419 P) (by kernel_rfl) (by kernel_rfl)
theorem f58 (P : Params) : FunAt (KK P) "_law_divisor" (top 58) .none := fat (f := 426) (by kernel_rfl) (k426 P) (by kernel_rfl) (by kernel_rfl)
theorem f59 (P : Params) : FunAt (KK P) "_law_heft_is" (top 59) .none := fat (f := 431) (by kernel_rfl) (k431 P) (by kernel_rfl) (by kernel_rfl)
theorem f60 (P : Params) : FunAt (KK P) "_law_begun" (top 60) .none := fat (f := 438) (by kernel_rfl) (k438 P) (by kernel_rfl) (by kernel_rfl)
end Hd
end K25
open PySem PySem.W PyProof.Rows
set_option maxRecDepth 100000 in
set_option maxHeartbeats 0 in
theorem PySem.Challenge.cw_spinboard_k25_boards_and_hefts_holds : PySem.Challenge.rw_spinboard_k25_boards_and_hefts.Holds := by
  refine holds_law K25.Hd.said_ fun said => ?_
  refine holds_open (q := K25.Hd.qq) (loose := K25.Hd.loose) (Xt := K25.Hd.Xt) (XP := XL K25.Hd.qq K25.Hd.lv) (Yf := K25.Hd.HH.obs) (Ya := K25.Hd.HH.val) (YP := K25.Hd.HH.says) (d := ⟨"law", L2.defArgs (K25.top 61), L2.defBody (K25.top 61), L2.defScope (K25.top 61), K25.Hd.dPos (K25.top 61)⟩) (kwd := []) (N := K25.Hd.NN) K25.Hd.left_ K25.Hd.HH.of K25.Hd.HH.keeps (fun s e => xl_of s (Bool.and_eq_true_iff.mp e).1) XL.keeps (by kernel_rfl) (by kernel_rfl) (by kernel_rfl) (fun s e => recFacts_of (Bool.and_eq_true_iff.mp e).2) (by kernel_rfl) said (by kernel_rfl) ⟨rfl, rfl, rfl, rfl, rfl, by decide +kernel⟩ ?hw ?hc
  case hw => w_witness2
  refine K25.walk (l := PySem.Challenge.rw_spinboard_k25_boards_and_hefts) rfl rfl (fun w h Y => PySem.W.kIn_of Y) ?F
  case F =>
    intro w mg fa h KX G hmg
    refine' K25.all_mk (K := K25.Hd.KK w.params) (f := 443) (aZ := 267) (C := 73) (D := 24) (A_NeverSo := 109) (A_NoAmount := 49) (A_NoMark := 61) (A_NoCell := 97) (A_NoMove := 85) (A_NoShare := 37) (A_NoTable := 121) (A_NoText := 140) (A_NotBorne := 159) (A_Unguarded := 178) (aO := 268) (aQ := 269) (Dd := 270) (Ds := 188) (tM := 547) KX G hmg ?aL (K25.Hd.k443 _) ?cL ?kL (K25.Hd.f14 _) (K25.Hd.f15 _) (K25.Hd.f16 _) (K25.Hd.f18 _) (K25.Hd.f19 _) (K25.Hd.f20 _) (K25.Hd.f21 _) (K25.Hd.f22 _) (K25.Hd.f23 _) (K25.Hd.f24 _) (K25.Hd.f25 _) (K25.Hd.f27 _) (K25.Hd.f28 _) (K25.Hd.f34 _) (K25.Hd.f35 _) (K25.Hd.f36 _) (K25.Hd.f37 _) (K25.Hd.f38 _) (K25.Hd.f39 _) (K25.Hd.f40 _) (K25.Hd.f41 _) (K25.Hd.f43 _) (K25.Hd.f44 _) (K25.Hd.f45 _) (K25.Hd.f46 _) (K25.Hd.f47 _) (K25.Hd.f48 _) (K25.Hd.f49 _) (K25.Hd.f50 _) (K25.Hd.f51 _) (K25.Hd.f52 _) (K25.Hd.f54 _) (K25.Hd.f55 _) (K25.Hd.f56 _) (K25.Hd.f57 _) (K25.Hd.f58 _) (K25.Hd.f59 _) (K25.Hd.f60 _) ?z0 ?z1 ?z2 ?z3 ?z4 ?z5 ?z6 ?z7 ?z8 ?z9 ?z10 ?z11 ?z12 ?z13 ?z14 ?z15 ?z16 ?gM0 ?tD ?tS ?gO0 ?tO ?gL0 ?tL ?gZ0 ?tZ ?aC ?aD ?zV (L2.excAt ?xc1 ?xc2 ?xc3 ?xc4) (L2.excAt ?xd1 ?xd2 ?xd3 ?xd4) ?sub ⟨?e1, ?e2, ?e3, ?e4, ?e5, ?e6, ?e7⟩ ?own ?ve ?n_NeverSo ?n_NoAmount ?n_NoMark ?n_NoCell ?n_NoMove ?n_NoShare ?n_NoTable ?n_NoText ?n_NotBorne ?n_Unguarded ?k1 ?k2
    (case aL => kernel_rfl); (case cL => kernel_rfl); (case kL => kernel_rfl)
    (case z0 => kernel_rfl); (case z1 => kernel_rfl); (case z2 => kernel_rfl); (case z3 => kernel_rfl); (case z4 => kernel_rfl); (case z5 => kernel_rfl); (case z6 => kernel_rfl); (case z7 => kernel_rfl); (case z8 => kernel_rfl); (case z9 => kernel_rfl); (case z10 => kernel_rfl); (case z11 => kernel_rfl); (case z12 => kernel_rfl); (case z13 => kernel_rfl); (case z14 => kernel_rfl); (case z15 => kernel_rfl); (case z16 => kernel_rfl)
    (case gM0 => kernel_rfl)
    (case tD => exact K25.Hd.k270 _); (case tS => exact K25.Hd.k188 _); (case gO0 => kernel_rfl); (case tO => exact K25.Hd.k268 _); (case gL0 => kernel_rfl); (case tL => exact K25.Hd.k269 _)
    (case gZ0 => kernel_rfl); (case tZ => exact K25.Hd.k267 _)
    (case aC => kernel_rfl); (case aD => kernel_rfl); (case zV => kernel_rfl)
    (case xc1 => exact K25.Hd.k73 _); (case xc2 => kernel_rfl); (case xc3 => kernel_rfl); (case xc4 => kernel_rfl)
    (case xd1 => exact K25.Hd.k24 _); (case xd2 => kernel_rfl); (case xd3 => kernel_rfl); (case xd4 => kernel_rfl)
    (case sub => kernel_rfl)
    (case e1 => kernel_rfl); (case e2 => kernel_rfl); (case e3 => kernel_rfl); (case e4 => kernel_rfl); (case e5 => kernel_rfl); (case e6 => kernel_rfl); (case e7 => kernel_rfl)
    (case own => kernel_rfl); (case ve => kernel_rfl)
    (case n_NeverSo => kernel_rfl)
    (case n_NoAmount => kernel_rfl)
    (case n_NoMark => kernel_rfl)
    (case n_NoCell => kernel_rfl)
    (case n_NoMove => kernel_rfl)
    (case n_NoShare => kernel_rfl)
    (case n_NoTable => kernel_rfl)
    (case n_NoText => kernel_rfl)
    (case n_NotBorne => kernel_rfl)
    (case n_Unguarded => kernel_rfl)
    (case k1 => kernel_rfl); (case k2 => kernel_rfl)

