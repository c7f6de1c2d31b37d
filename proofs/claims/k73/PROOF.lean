import PyProof.Rows.All
import Wide.All
import OpenK.AllK
import Wide.FinOn
import Lean
import PyProof.EqAt
import PyProof.EqKinds
import PyProof.TupleCall
import PyProof.Rows.BitMore
import PyProof.ConsumeWalk
import PyProof.Rows.SetFrom
import PyProof.WalksMore
import PyProof.FactsAll.subtypes_4
import PyProof.Rows.SortWalk
import PyProof.Rows.TupDisplay
import PyProof.EnumMake
import PyProof.Rows.EnumRows
import PyProof.SumAny
import PyProof.Rows.MinMaxN
import PyProof.StationsW
import PyProof.ExcClass3
import PyProof.ExcBaseAll.ValueError
import PyProof.RulesAs
import PyProof.ExcArgsOwn
import PyProof.ExcAttrAll.ValueError
import PyProof.InstStoreFacts
import PyProof.ExcClass2
import PyProof.ExcInit
import PyProof.NsDelKeeps
import PySem.Challenge.RW_spinboard_k73_images
-- CHANGE: your row's module here, as the last of these rows
set_option Elab.async false
set_option linter.all false
set_option maxRecDepth 100000
/-! THE HAND LAYER, for ints, bools, texts, own classes, LISTS and tuples (index, slices, in, append, pop ..), calls, loops. Paste it whole ahead of your own text; what your proof does not reach may be deleted. -/
namespace L2
open PySem PySem.Spec PyProof.Rows

abbrev Key := Sum Int Str
def keyIs : Key → Value → Bool
  | .inl k, v => Value.isInt k v
  | .inr x, v => Value.isStrOf x v
def keyH (w : World) : Key → Int
  | .inl k => hashInt k
  | .inr x => hashStr w x
theorem keyIs_shape : ∀ {k : Key} {v : Value}, keyIs k v = true → (∃ i t, k = Sum.inl i ∧ v = Value.int i t) ∨ (∃ x t, k = Sum.inr x ∧ v = Value.str x t)
  | .inl i, v, h => by
    obtain ⟨t, e⟩ := Value.isInt_shape (k := i) (v := v) h
    exact .inl ⟨i, t, rfl, e⟩
  | .inr x, v, h => by
    obtain ⟨t, e⟩ := Value.isStrOf_shape (x := x) (v := v) h
    exact .inr ⟨x, t, rfl, e⟩
theorem keyIs_int (i : Int) (t : Tok) : keyIs (.inl i) (.int i t) = true := by simp [keyIs, Value.isInt]
theorem keyIs_str (x : Str) (t : Tok) : keyIs (.inr x) (.str x t) = true := by simp [keyIs, Value.isStrOf]
theorem key_ll (a b : Int) : decide ((Sum.inl a : Key) = Sum.inl b) = (a == b) := by
  by_cases e : a = b
  · subst e; simp
  · have h : ¬ (Sum.inl a : Key) = Sum.inl b := fun q => e (Sum.inl.inj q)
    rw [decide_eq_false h]
    exact (beq_eq_false_iff_ne.mpr e).symm
theorem key_rr (a b : Str) : decide ((Sum.inr a : Key) = Sum.inr b) = decide (a = b) := by
  by_cases e : a = b
  · subst e; simp
  · have h : ¬ (Sum.inr a : Key) = Sum.inr b := fun q => e (Sum.inr.inj q)
    rw [decide_eq_false h, decide_eq_false e]
theorem key_lr (a : Int) (b : Str) : decide ((Sum.inl a : Key) = Sum.inr b) = false := decide_eq_false (fun q => nomatch q)
theorem key_rl (a : Str) (b : Int) : decide ((Sum.inr a : Key) = Sum.inl b) = false := decide_eq_false (fun q => nomatch q)

def mixKind (prog : Program) (w : World) : PySem.KeyKind prog w Key where
  is := keyIs
  hash := keyH w
  inj := fun v a b ha hb => by
    rcases keyIs_shape ha with ⟨i, t, rfl, rfl⟩ | ⟨x, t, rfl, rfl⟩
    · rcases keyIs_shape hb with ⟨j, u, rfl, e⟩ | ⟨y, u, rfl, e⟩
      · injection e with e1 _; rw [e1]
      · exact nomatch e
    · rcases keyIs_shape hb with ⟨j, u, rfl, e⟩ | ⟨y, u, rfl, e⟩
      · exact nomatch e
      · injection e with e1 _; rw [e1]
  byValue := fun k v h => by
    rcases keyIs_shape h with ⟨i, t, rfl, rfl⟩ | ⟨x, t, rfl, rfl⟩ <;> rfl
  pyHash := fun hv h => by
    rcases keyIs_shape hv with ⟨i, t, rfl, rfl⟩ | ⟨x, t, rfl, rfl⟩
    · exact wpAny_pyHash_int h
    · exact wpAny_pyHash_str h
  eqBool := fun hu hv h => by
    rcases keyIs_shape hu with ⟨i, t, rfl, rfl⟩ | ⟨x, t, rfl, rfl⟩
    · rcases keyIs_shape hv with ⟨j, u, rfl, rfl⟩ | ⟨y, u, rfl, rfl⟩
      · rw [key_ll] at h; exact wpAny_eqBool_int h
      · rw [key_lr] at h; exact SeqAt.EqAt.int_str i t y u _ _ _ _ h
    · rcases keyIs_shape hv with ⟨j, u, rfl, rfl⟩ | ⟨y, u, rfl, rfl⟩
      · rw [key_rl] at h; exact SeqAt.EqAt.str_int x t j u _ _ _ _ h
      · rw [key_rr] at h; exact wpAny_eqBool_str h
  «strs» := fun k x t v h => by
    rcases keyIs_shape h with ⟨i, u, rfl, e⟩ | ⟨y, u, rfl, e⟩
    · exact nomatch e
    · injection e with e1 _
      subst e1
      cases v <;> rfl

theorem mixKind_int (prog : Program) (w : World) (i : Int) (t : Tok) : (mixKind prog w).is (.inl i) (.int i t) = true := keyIs_int i t
theorem mixKind_str (prog : Program) (w : World) (x : Str) (t : Tok) : (mixKind prog w).is (.inr x) (.str x t) = true := keyIs_str x t
end L2

namespace L2
open PySem PySem.Spec PyProof.Rows

inductive V where
  | non | bl (b : Bool) | int (i : Int) | str (x : Str) | byt (b : Array UInt8) | flt (b : UInt64) | ref (a : Addr) | ty (n : String)
  deriving DecidableEq

def RelV : V → Value → Prop
  | .non, u => u = Value.none
  | .bl b, u => u = Value.bool b
  | .int i, u => ∃ t, u = Value.int i t
  | .str x, u => ∃ t, u = Value.str x t
  | .byt b, u => ∃ t, u = Value.bytes b t
  | .flt b, u => ∃ t, u = Value.float b t
  | .ref a, u => u = Value.ref a
  | .ty n, u => u = Value.type n

abbrev Vals : List V → List Value → Prop := Paired RelV
theorem Vals.length {xs : List V} {us : List Value} (r : Vals xs us) : xs.length = us.length := Paired.length r
theorem Vals.get : ∀ {xs : List V} {us : List Value} {i : Nat} {x : V}, Vals xs us → xs[i]? = some x → ∃ u, us[i]? = some u ∧ RelV x u
  | _, _, _, _, .nil, e => by simp at e
  | _, _, 0, _, .cons r _, e => by simp at e; subst e; exact ⟨_, rfl, r⟩
  | _, _, i + 1, x, .cons _ t, e => by
    obtain ⟨u, h1, h2⟩ := Vals.get (i := i) (x := x) t (by simpa using e)
    exact ⟨u, by simpa using h1, h2⟩
theorem Vals.set {x : V} {u : Value} (r : RelV x u) : ∀ {xs : List V} {us : List Value} (i : Nat), Vals xs us → Vals (xs.set i x) (us.set i u)
  | _, _, _, .nil => .nil
  | _, _, 0, .cons _ t => .cons r t
  | _, _, i + 1, .cons q t => .cons q (Vals.set r i t)
theorem Vals.append : ∀ {xs ys : List V} {us ws : List Value}, Vals xs us → Vals ys ws → Vals (xs ++ ys) (us ++ ws)
  | _, _, _, _, .nil, s => s
  | _, _, _, _, .cons r t, s => .cons r (Vals.append t s)
theorem Vals.take : ∀ {xs : List V} {us : List Value} (n : Nat), Vals xs us → Vals (xs.take n) (us.take n)
  | _, _, 0, _ => .nil
  | _, _, _ + 1, .nil => .nil
  | _, _, n + 1, .cons r t => .cons r (Vals.take n t)
theorem Vals.drop : ∀ {xs : List V} {us : List Value} (n : Nat), Vals xs us → Vals (xs.drop n) (us.drop n)
  | _, _, 0, r => r
  | _, _, _ + 1, .nil => .nil
  | _, _, n + 1, .cons _ t => Vals.drop n t
def RelO : Option V → Option Value → Prop
  | some v, some u => RelV v u
  | none, none => True
  | _, _ => False
def KV {κ : Type} : List (κ × V) → List (κ × Value) → Prop := Paired fun (p : κ × V) (q : κ × Value) => p.1 = q.1 ∧ RelV p.2 q.2

def kV : Key → V
  | .inl i => .int i
  | .inr x => .str x

inductive HO where
  /-- a list -/
  | lst (xs : List V)
  /-- a tuple (never changes) -/
  | tup (xs : List V)
  /-- a dict whose keys are ints and texts; one whose keys are tuples of ints and texts (the empty one is both) -/
  | dK (kvs : List (Key × V)) | dT (kvs : List (List Key × V))
  /-- a set of ints: its members, its size -/
  | set (S : Int → Bool) (n : Nat)
  /-- an instance of the class at C, its dict at dx, its attributes -/
  | ins (C dx : Addr) (fs : List (Str × V))
  /-- the dict of the instance at x -/
  | own (x : Addr)
  /-- the dict of an exception -/
  | xd (fs : List (Str × V))
  /-- a bound method, f of x -/
  | met (f x : Addr)
  /-- a range object lo, lo + 1, .. below hi -/
  | rng (lo hi : Int)
  /-- a thing that is known to the object (the script; a dict while a loop walks it): read, never written while it is so -/
  | frz (o : Obj) (u : HO)
  /-- a code object's table -/
  | tbl (ps : Array Value)
  /-- any other thing, by what is true of its one object (a def of one's own: SetO a S n := HO.ext fun h => ..) -/
  | ext (φ : Heap → Prop)

abbrev Hp := Addr → Option HO
def upd (H : Hp) (a : Addr) (o : HO) : Hp := fun b => if b = a then some o else H b
theorem upd_same {H : Hp} {a : Addr} {o : HO} : upd H a o a = some o := by unfold upd; rw [if_pos rfl]
theorem upd_ne {H : Hp} {a b : Addr} {o : HO} (h : b ≠ a) : upd H a o b = H b := by unfold upd; rw [if_neg h]
theorem ne_of {H : Hp} {a b : Addr} {o u : HO} (h : H a = some o) (h' : H b = some u) (d : o ≠ u) : a ≠ b := by
  intro e; subst e; rw [h] at h'; exact d (Option.some.inj h')
theorem ne_of_none {H : Hp} {a b : Addr} {o : HO} (h : H a = some o) (h' : H b = none) : a ≠ b := by
  intro e; subst e; rw [h] at h'; cases h'

section
variable (P : Program) (w : World)
def ObjOk (H : Hp) (h : Heap) (a : Addr) : HO → Prop
  | .lst xs => xs.length ≤ sizeLine ∧ ∃ (its : List Value) (n : Nat), Vals xs its ∧ h.get? a = some { cls := .type "list", data := .seq its.toArray n }
  | .tup xs => xs.length ≤ sizeLine ∧ ∃ its : List Value, Vals xs its ∧ IsTup h a its.toArray
  | .dK kvs => kvs.length ≤ sizeLine ∧ (a == sysModules) = false ∧ ∃ vs, KV kvs vs ∧ h.DictOf (mixKind P w) a vs
  | .dT kvs => kvs.length ≤ sizeLine ∧ (a == sysModules) = false ∧ ∃ xs : List (List Key × Addr × Value),
      Paired (fun (p : List Key × V) (q : List Key × Addr × Value) => p.1 = q.1 ∧ H q.2.1 = some (.tup (p.1.map kV)) ∧ RelV p.2 q.2.2) kvs xs ∧
      ∃ o es ep, h.get? a = some o ∧ o.ExactDict ∧ o.data = .dict es ep ∧ es.toList = xs.map (entryOfKey (tupleKind (mixKind P w))) ∧ (xs.map (·.1)).Nodup
  | .set S n => h.SetOf (intKind P w) a S n
  | .ins C dx fs => H dx = some (.own a) ∧ fs.length ≤ 1000 ∧ dx ≠ a ∧ h.get? a = some (PySem.W.instObj C dx) ∧
      ∃ mA, h.Ns1 dx mA ∧ (∀ f, RelO (fs.lookup f) (mA f)) ∧ PySem.Within mA (fs.map (·.1))
  | .own _ => ∃ o, h.get? a = some o
  | .xd fs => ∃ mA, h.Ns1 a mA ∧ ∀ f, RelO (fs.lookup f) (mA f)
  | .rng lo hi => ∃ t u v, h.get? a = some { cls := .type "range", data := .fields #[.int lo t, .int hi u, .int 1 v] }
  | .frz o u => h.get? a = some o ∧ ObjOk H h a u
  | .tbl ps => h.get? a = some { cls := .none, data := .fields ps }
  | .met f x => h.get? a = some (PySem.W.methodObj (.ref f) (.ref x))
  | .ext φ => φ h ∧ (∃ o, h.get? a = some o) ∧ ∀ h1 h2 : Heap, φ h1 → (∀ o, h1.get? a = some o → h2.get? a = some o) → φ h2
def HOk (H : Hp) (h : Heap) : Prop := ∀ a o, H a = some o → ObjOk P w H h a o
end

section
variable {P : Program} {w : World} {H H' : Hp} {h h' : Heap} {a : Addr} {o : HO}
theorem ObjOk.lt (x : ObjOk P w H h a o) : a < h.objs.size := by
  cases o with
  | lst xs => obtain ⟨_, _, _, _, e⟩ := x; exact Heap.lt_size e
  | tup xs => obtain ⟨_, _, _, p⟩ := x; exact p.lt
  | dK kvs => obtain ⟨_, _, _, _, o, _, _, e, _⟩ := x; exact Heap.lt_size e
  | dT kvs => obtain ⟨_, _, _, _, o, _, _, e, _⟩ := x; exact Heap.lt_size e
  | set S n => obtain ⟨o, _, _, _, e, _⟩ := x; exact Heap.lt_size e
  | ins C dx fs => obtain ⟨_, _, _, e, _⟩ := x; exact Heap.lt_size e
  | own y => obtain ⟨_, e⟩ := x; exact Heap.lt_size e
  | xd fs => obtain ⟨_, ⟨_, _, _, e, _⟩, _⟩ := x; exact Heap.lt_size e
  | rng lo hi => obtain ⟨_, _, _, e⟩ := x; exact Heap.lt_size e
  | frz ob u => obtain ⟨e, _⟩ := x; exact Heap.lt_size e
  | tbl ps => exact Heap.lt_size (show h.get? a = some _ from x)
  | met f y => exact Heap.lt_size (show h.get? a = some _ from x)
  | ext φ => obtain ⟨_, ⟨_, e⟩, _⟩ := x; exact Heap.lt_size e
theorem Paired.mapP {α β : Type} {F G : α → β → Prop} : ∀ {l₁ : List α} {l₂ : List β}, Paired F l₁ l₂ → (∀ a b, F a b → G a b) → Paired G l₁ l₂
  | _, _, .nil, _ => .nil
  | _, _, .cons r t, f => .cons (f _ _ r) (Paired.mapP t f)
theorem Paired.imp' {α β : Type} {F G : α → β → Prop} (f : ∀ a b, F a b → G a b) {l₁ : List α} {l₂ : List β} (r : Paired F l₁ l₂) : Paired G l₁ l₂ := Paired.mapP r f
theorem ObjOk.stay (x : ObjOk P w H h a o) (k : ∀ b u, (b = a ∨ H b = some (.own a)) → h.get? b = some u → h'.get? b = some u)
    (ho : ∀ b, H b = some (.own a) → H' b = some (.own a)) (ht : ∀ b xs, H b = some (.tup xs) → H' b = some (.tup xs)) : ObjOk P w H' h' a o := by
  induction o with
  | lst xs => obtain ⟨z, its, n, r, e⟩ := x; exact ⟨z, its, n, r, k _ _ (.inl rfl) e⟩
  | tup xs => obtain ⟨z, its, r, ob, e, c⟩ := x; exact ⟨z, its, r, ob, k _ _ (.inl rfl) e, c⟩
  | dK kvs => obtain ⟨z, y, vs, r, ob, es, ep, e, c⟩ := x; exact ⟨z, y, vs, r, ob, es, ep, k _ _ (.inl rfl) e, c⟩
  | dT kvs =>
    obtain ⟨z, y, xs, r, ob, es, ep, e, c⟩ := x
    exact ⟨z, y, xs, Paired.mapP r fun p q z => ⟨z.1, ht _ _ z.2.1, z.2.2⟩, ob, es, ep, k _ _ (.inl rfl) e, c⟩
  | set S n => obtain ⟨ob, es, ep, t, e, c⟩ := x; exact ⟨ob, es, ep, t, k _ _ (.inl rfl) e, c⟩
  | ins C dx fs =>
    obtain ⟨d, z, ne, e, mA, ⟨od, es, ep, e2, c⟩, r⟩ := x
    exact ⟨ho _ d, z, ne, k _ _ (.inl rfl) e, mA, ⟨od, es, ep, k _ _ (.inr d) e2, c⟩, r⟩
  | own y => obtain ⟨ob, e⟩ := x; exact ⟨ob, k _ _ (.inl rfl) e⟩
  | xd fs => obtain ⟨mA, ⟨od, es, ep, e, c⟩, r⟩ := x; exact ⟨mA, ⟨od, es, ep, k _ _ (.inl rfl) e, c⟩, r⟩
  | rng lo hi => obtain ⟨t, u, v, e⟩ := x; exact ⟨t, u, v, k _ _ (.inl rfl) e⟩
  | frz ob u ih => obtain ⟨e, q⟩ := x; exact ⟨k _ _ (.inl rfl) e, ih q⟩
  | tbl ps =>
    have e : h.get? a = some { cls := .none, data := .fields ps } := x
    show h'.get? a = some { cls := .none, data := .fields ps }
    exact k a _ (.inl rfl) e
  | met f y =>
    have e : h.get? a = some (PySem.W.methodObj (.ref f) (.ref y)) := x
    show h'.get? a = some (PySem.W.methodObj (.ref f) (.ref y))
    exact k a _ (.inl rfl) e
  | ext φ => obtain ⟨p, ⟨o, e⟩, st⟩ := x; exact ⟨st _ _ p fun o q => k _ _ (.inl rfl) q, ⟨o, k _ _ (.inl rfl) e⟩, st⟩
theorem HOk.lt (x : HOk P w H h) (e : H a = some o) : a < h.objs.size := (x a o e).lt
theorem HOk.fresh (x : HOk P w H h) (e : h.objs.size ≤ a) : H a = none := by
  cases q : H a with
  | none => rfl
  | some u => exact absurd (Nat.lt_of_lt_of_le (x.lt q) e) (Nat.lt_irrefl _)
theorem HOk.kept (x : HOk P w H h) (k : ∀ b u, h.get? b = some u → h'.get? b = some u) : HOk P w H h' := fun a o e =>
  (x a o e).stay (fun b u _ q => k b u q) (fun _ q => q) fun _ _ q => q
theorem HOk.laid (x : HOk P w H h) (k : ∀ b u, h.get? b = some u → h'.get? b = some u) (hp : h.objs.size ≤ a) (new : ObjOk P w (upd H a o) h' a o) : HOk P w (upd H a o) h' := fun b u e => by
  have hn := x.fresh hp
  by_cases hb : b = a
  · subst hb; rw [upd_same] at e; cases e; exact new
  · rw [upd_ne hb] at e
    exact (x b u e).stay (fun c v _ q => k c v q) (fun c q => by rw [upd_ne (ne_of_none q hn)]; exact q) fun c xs q => by rw [upd_ne (ne_of_none q hn)]; exact q
end

def Rd (H : Hp) (a : Addr) (u : HO) : Prop := H a = some u ∨ ∃ o, H a = some (.frz o u)
theorem Rd.ok {P : Program} {w : World} {H : Hp} {h : Heap} {a : Addr} {u : HO} (r : Rd H a u) (x : HOk P w H h) : ObjOk P w H h a u := by
  rcases r with r | ⟨o, r⟩
  · exact x a u r
  · obtain ⟨_, q⟩ := x a _ r
    exact q
def Mut : Option HO → Prop
  | some (.lst _) => True
  | some (.dK _) => True
  | some (.dT _) => True
  | some (.set _ _) => True
  | some (.ins _ _ _) => True
  | some (.ext _) => True
  | _ => False
section
variable {P : Program} {w : World} {H : Hp} {h h' : Heap} {x e : Addr} {o' : HO}
theorem HOk.write (ok : HOk P w H h) (mu : Mut (H x)) (he : e = x ∨ H e = some (.own x)) (k : ∀ b u, b ≠ e → h.get? b = some u → h'.get? b = some u) (heo : ∃ u, h'.get? e = some u)
    (new : ObjOk P w (upd H x o') h' x o') : HOk P w (upd H x o') h' := fun b u q => by
  have nown : ∀ c y, H c = some (.own y) → c ≠ x := fun c y r z => by subst z; rw [r] at mu; exact mu
  have ntup : ∀ c xs, H c = some (.tup xs) → c ≠ x := fun c xs r z => by subst z; rw [r] at mu; exact mu
  by_cases hb : b = x
  · subst hb; rw [upd_same] at q; cases q; exact new
  · rw [upd_ne hb] at q
    by_cases hbe : b = e
    · have q' : H b = some (.own x) := by
        rcases he with z | z
        · exact absurd (hbe.trans z) hb
        · rw [hbe]; exact z
      rw [q] at q'; cases q'
      obtain ⟨v, hv⟩ := heo
      exact ⟨v, by rw [hbe]; exact hv⟩
    · refine (ok b u q).stay (fun c v hc r => k c v ?_ r) (fun c r => by rw [upd_ne (nown c b r)]; exact r) fun c xs r => by rw [upd_ne (ntup c xs r)]; exact r
      rcases hc with rfl | hc
      · exact hbe
      · rintro rfl
        rcases he with z | z
        · exact nown c b hc z
        · rw [hc] at z; cases z; exact hb rfl
end

/-! ### kept unless tracked; of the frames at fs (the callers') the slots may change (an exception that passes writes there); of the records at ex (iterators) nothing is said -/
structure Un (fs ex : List Addr) (H H' : Hp) (h h' : Heap) : Prop where
  keep : ∀ b o, h.get? b = some o → H b = none → b ∉ fs → b ∉ ex → h'.get? b = some o
  slot : ∀ b o, h.get? b = some o → H b = none → b ∈ fs → b ∉ ex → ∃ sl, h'.get? b = some { o with slots := sl }
  free : ∀ b o, h.get? b = some o → H b = none → b ∉ ex → H' b = none
  there : ∀ b o, h.get? b = some o → b ∉ ex → ∃ o', h'.get? b = some o'
  tups : ∀ b xs, H b = some (.tup xs) → H' b = some (.tup xs)
  frzs : ∀ b o u, H b = some (.frz o u) → H' b = some (.frz o u)
  tbls : ∀ b ps, H b = some (.tbl ps) → ∃ more, H' b = some (.tbl (ps ++ more))
section
variable {fs fs' ex ex' : List Addr} {H H1 H2 : Hp} {h h1 h2 h' : Heap} {a x e : Addr} {o : HO}
theorem Un.any (u : Un fs ex H H1 h h1) {b : Addr} {ob : Obj} (q : h.get? b = some ob) (n : H b = none) (hx : b ∉ ex) : ∃ sl, h1.get? b = some { ob with slots := sl } := by
  by_cases hb : b ∈ fs
  · exact u.slot b ob q n hb hx
  · exact ⟨ob.slots, u.keep b ob q n hb hx⟩
theorem Un.kept (k : ∀ b u, h.get? b = some u → h'.get? b = some u) : Un fs ex H H h h' :=
  ⟨fun b ob q _ _ _ => k b ob q, fun b ob q _ _ _ => ⟨ob.slots, k b ob q⟩, fun _ _ _ n _ => n, fun b ob q _ => ⟨ob, k b ob q⟩, fun _ _ q => q, fun _ _ _ q => q, fun _ ps q => ⟨#[], by rw [q]; simp⟩⟩
theorem Un.refl : Un fs ex H H h h := Un.kept fun _ _ q => q
theorem Un.laid (k : ∀ b u, h.get? b = some u → h'.get? b = some u) (hp : h.objs.size ≤ a) (hn : H a = none) : Un fs ex H (upd H a o) h h' where
  keep := fun b u q _ _ _ => k b u q
  slot := fun b u q _ _ _ => ⟨u.slots, k b u q⟩
  free := fun b u q n _ => by rw [upd_ne (Nat.ne_of_lt (Nat.lt_of_lt_of_le (Heap.lt_size q) hp))]; exact n
  there := fun b u q _ => ⟨u, k b u q⟩
  tups := fun b xs q => by rw [upd_ne (ne_of_none q hn)]; exact q
  frzs := fun b u xs q => by rw [upd_ne (ne_of_none q hn)]; exact q
  tbls := fun b ps q => ⟨#[], by rw [upd_ne (ne_of_none q hn), q]; simp⟩
theorem Un.write (mu : Mut (H x)) (he : e = x ∨ H e = some (.own x)) (k : ∀ b u, b ≠ e → h.get? b = some u → h'.get? b = some u) (heo : ∃ u, h'.get? e = some u) : Un fs ex H (upd H x o) h h' := by
  have hx : ∀ b, H b = none → b ≠ x := fun b n z => by subst z; rw [n] at mu; exact mu
  have hb : ∀ b, H b = none → b ≠ e := fun b n z => by
    subst z
    rcases he with r | r
    · exact hx b n r
    · rw [n] at r; cases r
  have hm : ∀ b u, H b = some u → ¬ Mut (some u) → b ≠ x := fun b u q nm z => by subst z; rw [q] at mu; exact nm mu
  refine ⟨fun b u q n _ _ => k b u (hb b n) q, fun b u q n _ _ => ⟨u.slots, k b u (hb b n) q⟩, fun b u q n _ => by rw [upd_ne (hx b n)]; exact n, fun b u q _ => ?_,
    fun b xs q => by rw [upd_ne (hm b _ q fun z => z)]; exact q, fun b u xs q => by rw [upd_ne (hm b _ q fun z => z)]; exact q, fun b ps q => ⟨#[], by rw [upd_ne (hm b _ q fun z => z), q]; simp⟩⟩
  by_cases hbe : b = e
  · subst hbe; exact heo
  · exact ⟨u, k b u hbe q⟩
end

/-! ### the heap without what is tracked -/
def trk (h : Heap) (H : Hp) : List Addr := (List.range h.objs.size).filter fun a => (H a).isSome
def hidT (h : Heap) (H : Hp) : Heap := PySem.W.hideAll h (trk h H)
theorem hidT_size (h : Heap) (H : Hp) : (hidT h H).objs.size = h.objs.size := PySem.W.hideAll_size _ _
theorem hidT_get {h : Heap} {H : Hp} {b : Addr} {o : Obj} (e : h.get? b = some o) (n : H b = none) : (hidT h H).get? b = some o :=
  PySem.W.hideAll_get _ e fun hm => by
    have q : (H b).isSome = true := (List.mem_filter.mp hm).2
    rw [n] at q; simp at q
theorem of_hidT {h : Heap} {H : Hp} {b : Addr} {o : Obj} (e : (hidT h H).get? b = some o) : h.get? b = some o ∧ H b = none := by
  have e' : h.get? b = some o := PySem.W.of_hideAll (trk h H) e
  refine ⟨e', ?_⟩
  cases q : H b with
  | none => rfl
  | some x =>
    have hm : b ∈ trk h H := List.mem_filter.mpr ⟨List.mem_range.mpr (Heap.lt_size e'), by simp [q]⟩
    have z : (hidT h H).get? b = none := PySem.W.hideAll_none (trk h H) hm
    rw [z] at e; cases e

/-! ### OpenK's ledger, filled with every new object but one -/
end L2

namespace L2
open PySem PySem.Spec PyProof.Rows

structure Mod (K : PySem.W.Frag) (mg : Str → Option Value) (base : Heap) : Prop where
  kin : K.In base
  glob : base.Ns mainGlobals mg
  blt : ∃ mb, base.Ns builtinsNs mb ∧ ∀ x : Str, x ≠ "__name__" → mb x = bootBuiltins x
  nolimit : base.NoLimit

/-- the context: a def's body (or a comprehension's block) running. base: fixed through the whole law; s₀, H₀: the entry; outer: the frames whose slots others may change (a def's callers); stack: all frames that run;
   ex: iterators that were made ahead of the entry and are walked here (a comprehension's); fn: the names whose cells were made at the entry (a def: all; a comprehension's block: its own); calm: not within an except suite; pn: pins that every state bears; xe: what is wanted of an exception that leaves the code -/
structure Cx where
  prog : Program
  w : World
  K : PySem.W.Frag
  mg : Str → Option Value
  base : Heap
  A : Around
  N : List Str
  s₀ : Shared
  H₀ : Hp
  env : Env
  outer : List Env
  stack : List Env
  ex : List Addr
  fn : Str → Bool
  calm : Bool
  pn : List (Addr × Obj)
  xe : Value → Shared → Prop
def frs (l : List Env) : List Addr := l.filterMap (·.frame)
abbrev Cx.fs (X : Cx) : List Addr := frs X.outer

def Vis (sc : Scope) (x : Str) : Prop := sc.names.lookup x = some .local ∨ sc.names.lookup x = some .cell ∨ sc.names.lookup x = some .free
def Loc (sc : Scope) (x : Str) : Prop := sc.names.lookup x = some .local ∨ sc.names.lookup x = some .cell
def Look (env : Env) (h : Heap) (m : Str → Option Value) (x : Str) (u : Value) : Prop :=
  (env.kindOf x = some .local ∧ m x = some u) ∨ ((env.kindOf x = some .cell ∨ env.kindOf x = some .free) ∧ ∃ c, env.cells.lookup x = some c ∧ h.IsCell c (some u))

structure Cx.Ok (X : Cx) : Prop where
  mod : Mod X.K X.mg X.base
  kind : X.env.scope.kind = .function
  glob : X.env.globals = mainGlobals
  blt : X.env.builtins = builtinsNs
  above : X.s₀.heap.objs.size ≤ X.env.locals
  inj : ∀ x y c, X.env.cells.lookup x = some c → X.env.cells.lookup y = some c → x = y
  has : ∀ x, (X.env.kindOf x = some .cell ∨ X.env.kindOf x = some .free) → ∃ c, X.env.cells.lookup x = some c
  cab : ∀ x c, X.fn x = true → X.env.cells.lookup x = some c → X.s₀.heap.objs.size ≤ c
  hd : X.calm = true → X.A.handled = none
  frames : X.A.frames = some X.stack
  stk : X.stack = X.outer ∨ (X.stack = X.env :: X.outer ∧ X.env.frame = some X.env.locals)
  exf : ∀ b ∈ X.ex, b ≠ X.env.locals ∧ ∀ x c, X.env.cells.lookup x = some c → c ≠ b
  bs : ∀ b o, X.base.get? b = some o → X.s₀.heap.get? b = some o ∧ X.H₀ b = none
  bsz : X.base.objs.size ≤ X.s₀.heap.objs.size
  noex : ∀ b o, X.base.get? b = some o → b ∉ X.ex
  exfs : ∀ b ∈ X.ex, b ∉ X.fs
  funs : X.s₀.heap.FunFrames X.base X.outer
  frf : ∀ b ∈ X.fs, X.H₀ b = none

structure Inv (X : Cx) (pins : List (Addr × Obj)) (σ : List (Option V)) (H : Hp) (s : Shared) : Prop where
  ok : X.Ok
  os : s.os = X.s₀.os
  bare : AllBare s.gens
  base : Un X.fs X.ex X.H₀ H X.s₀.heap s.heap
  loc : ∃ m, s.heap.Ns X.env.locals m ∧ ∀ (i : Nat) (x : Str) (v : V), X.N[i]? = some x → σ[i]? = some (some v) → Vis X.env.scope x → ∃ u, RelV v u ∧ Look X.env s.heap m x u
  cell : ∀ x c, X.env.cells.lookup x = some c → ∃ v, s.heap.IsCell c v
  free : H X.env.locals = none
  freeC : ∀ x c, X.env.cells.lookup x = some c → H c = none
  pin : ∀ p ∈ X.pn ++ pins, s.heap.get? p.1 = some p.2 ∧ H p.1 = none ∧ p.1 ≠ X.env.locals ∧ p.1 ∉ X.fs ∧ ∀ v, p.2.data ≠ .cell v
  hok : HOk X.prog X.w H s.heap
  len : σ.length = X.N.length

section
variable {X : Cx} {pins : List (Addr × Obj)} {σ : List (Option V)} {H H' : Hp} {s : Shared} {h' : Heap}

theorem Cx.Ok.nofr (ok : X.Ok) {b : Addr} {o : Obj} (e : X.base.get? b = some o) : b ∉ X.fs := fun hb => by
  have := (ok.funs.mem hb).1
  rw [e] at this; cases this
theorem Inv.bs (I : Inv X pins σ H s) : ∀ b o, X.base.get? b = some o → s.heap.get? b = some o ∧ H b = none := fun b o e =>
  ⟨I.base.keep b o (I.ok.bs b o e).1 (I.ok.bs b o e).2 (I.ok.nofr e) (I.ok.noex b o e), I.base.free b o (I.ok.bs b o e).1 (I.ok.bs b o e).2 (I.ok.noex b o e)⟩
theorem Inv.bk (I : Inv X pins σ H s) : ∀ b o, X.base.get? b = some o → s.heap.get? b = some o := fun b o e => (I.bs b o e).1
theorem Inv.mod (I : Inv X pins σ H s) : Mod X.K X.mg X.base := I.ok.mod
theorem Inv.kIn (I : Inv X pins σ H s) : X.K.In s.heap := I.ok.mod.kin.keeps I.bk
theorem Inv.lt (I : Inv X pins σ H s) : X.env.locals < s.heap.objs.size := let ⟨_, hn, _⟩ := I.loc; hn.lt
theorem Inv.sz (I : Inv X pins σ H s) : X.s₀.heap.objs.size ≤ s.heap.objs.size := Nat.le_trans I.ok.above (Nat.le_of_lt I.lt)
theorem Inv.nofs (I : Inv X pins σ H s) {a : Addr} (h : s.heap.objs.size ≤ a) : a ∉ X.fs := fun hb => by
  obtain ⟨_, o, ho, _⟩ := I.ok.funs.mem hb
  exact absurd (Nat.lt_of_lt_of_le (Heap.lt_size ho) (Nat.le_trans I.sz h)) (Nat.lt_irrefl _)
theorem Inv.cne (I : Inv X pins σ H s) : ∀ x c, X.env.cells.lookup x = some c → c ≠ X.env.locals := fun x c e z => by
  obtain ⟨v, o, ho, hd⟩ := I.cell x c e
  obtain ⟨m, ⟨o', es, ep, ho', hd', _⟩, _⟩ := I.loc
  rw [z, ho'] at ho; cases ho; rw [hd'] at hd; cases hd
theorem Inv.funs (I : Inv X pins σ H s) : s.heap.FunFrames X.base X.outer := by
  have all : ∀ (l : List Env), (∀ b ∈ frs l, b ∈ X.fs) → X.s₀.heap.FunFrames X.base l → s.heap.FunFrames X.base l := by
    intro l
    induction l with
    | nil => intro _ _; trivial
    | cons env r ih =>
      intro hs hl
      obtain ⟨hk, ⟨L, o, hf, hn, ho, hd⟩, hr⟩ := hl
      have hL : L ∈ X.fs := hs L (by unfold frs; rw [List.filterMap_cons, hf]; exact List.mem_cons_self)
      obtain ⟨sl, e⟩ := I.base.slot L o ho (I.ok.frf L hL) hL fun z => I.ok.exfs L z hL
      exact ⟨hk, ⟨L, _, hf, hn, e, hd⟩, ih (fun b hb => hs b (by unfold frs; rw [List.filterMap_cons, hf]; exact List.mem_cons_of_mem _ hb)) hr⟩
  exact all X.outer (fun _ hb => hb) I.ok.funs

theorem Inv.stack (I : Inv X pins σ H s) : s.heap.FunFrames X.base X.stack := by
  rcases I.ok.stk with e | ⟨e, hf⟩
  · rw [e]; exact I.funs
  · rw [e]
    obtain ⟨m, hn, _⟩ := I.loc
    refine .cons (by rw [I.ok.kind]; decide) hf hn ?_ I.funs
    exact Heap.get?_none_of_le (Nat.le_trans I.ok.bsz I.ok.above)
theorem Inv.stkSub (I : Inv X pins σ H s) : ∀ b ∈ frs X.stack, b ∈ X.env.locals :: X.fs := fun b hb => by
  rcases I.ok.stk with e | ⟨e, hf⟩
  · rw [e] at hb; exact List.mem_cons_of_mem _ hb
  · rw [e] at hb
    unfold frs at hb
    rw [List.filterMap_cons, hf] at hb
    exact hb
theorem Inv.stkFree (I : Inv X pins σ H s) : ∀ b ∈ frs X.stack, H b = none := fun b hb => by
  rcases List.mem_cons.mp (I.stkSub b hb) with e | hb
  · rw [e]; exact I.free
  · obtain ⟨_, o, ho, _⟩ := I.ok.funs.mem hb
    exact I.base.free b o ho (I.ok.frf b hb) fun z => I.ok.exfs b z hb

theorem Inv.step {g' : Array GenState} {t' : Nat} {d' : Drawn} {ch : List Addr} (I : Inv X pins σ H s)
    (hch : ∀ b ∈ ch, (b ∈ X.ex ∨ X.s₀.heap.objs.size ≤ b) ∧ b ≠ X.env.locals ∧ (∀ x c, X.env.cells.lookup x = some c → c ≠ b) ∧ ∀ p ∈ X.pn ++ pins, p.1 ≠ b)
    (keep : ∀ b o, b ≠ X.env.locals → b ∉ X.fs → b ∉ ch → s.heap.get? b = some o → H b = none → h'.get? b = some o)
    (slot : ∀ b o, b ≠ X.env.locals → b ∈ X.fs → b ∉ ch → s.heap.get? b = some o → H b = none → ∃ sl, h'.get? b = some { o with slots := sl }) (free : ∀ b o, b ∉ ch → s.heap.get? b = some o → H b = none → H' b = none)
    (there : ∀ b o, b ∉ ch → s.heap.get? b = some o → ∃ o', h'.get? b = some o')
    (tups : ∀ b xs, H b = some (.tup xs) → H' b = some (.tup xs)) (frzs : ∀ b o u, H b = some (.frz o u) → H' b = some (.frz o u)) (tbls : ∀ b ps, H b = some (.tbl ps) → ∃ more, H' b = some (.tbl (ps ++ more)))
    (ns : ∀ m, s.heap.Ns X.env.locals m → h'.Ns X.env.locals m) (hok : HOk X.prog X.w H' h') (hg : AllBare g') :
    Inv X pins σ H' { s with heap := h', gens := g', drawn := d', toks := t' } := by
  have neL : ∀ b o, X.s₀.heap.get? b = some o → b ≠ X.env.locals := fun b o e => Nat.ne_of_lt (Nat.lt_of_lt_of_le (Heap.lt_size e) I.ok.above)
  have neC : ∀ b o, X.s₀.heap.get? b = some o → b ∉ X.ex → b ∉ ch := fun b o e hx hb => by
    rcases (hch b hb).1 with z | z
    · exact hx z
    · exact absurd (Nat.lt_of_lt_of_le (Heap.lt_size e) z) (Nat.lt_irrefl _)
  have cellK : ∀ x c, X.env.cells.lookup x = some c → ∀ v, s.heap.IsCell c v → h'.IsCell c v := fun x c e v ⟨o, ho, hd⟩ => by
    have nch : c ∉ ch := fun z => (hch c z).2.2.1 x c e rfl
    by_cases hc : c ∈ X.fs
    · obtain ⟨sl, q⟩ := slot c o (I.cne x c e) hc nch ho (I.freeC x c e)
      exact ⟨_, q, hd⟩
    · exact ⟨o, keep c o (I.cne x c e) hc nch ho (I.freeC x c e), hd⟩
  refine ⟨I.ok, I.os, hg, ⟨fun b o e n hb hx => ?_, fun b o e n hb hx => ?_, fun b o e n hx => ?_, fun b o e hx => ?_, fun b xs e => tups b xs (I.base.tups b xs e), fun b o xs e => frzs b o xs (I.base.frzs b o xs e), fun b ps e => ?_⟩, ?_, fun x c e => ?_, ?_, fun x c e => ?_, fun p hp => ?_, hok, I.len⟩
  · exact keep b o (neL b o e) hb (neC b o e hx) (I.base.keep b o e n hb hx) (I.base.free b o e n hx)
  · obtain ⟨sl, e1⟩ := I.base.slot b o e n hb hx
    obtain ⟨sl', e2⟩ := slot b _ (neL b o e) hb (neC b o e hx) e1 (I.base.free b o e n hx)
    exact ⟨sl', e2⟩
  · obtain ⟨o', e1⟩ := I.base.there b o e hx
    exact free b o' (neC b o e hx) e1 (I.base.free b o e n hx)
  · obtain ⟨o', e1⟩ := I.base.there b o e hx
    exact there b o' (neC b o e hx) e1
  · obtain ⟨m1, e1⟩ := I.base.tbls b ps e
    obtain ⟨m2, e2⟩ := tbls b _ e1
    exact ⟨m1 ++ m2, by rw [e2, Array.append_assoc]⟩
  · obtain ⟨m, hn, hl⟩ := I.loc
    refine ⟨m, ns m hn, fun i x v e1 e2 e3 => ?_⟩
    obtain ⟨u, r, l⟩ := hl i x v e1 e2 e3
    refine ⟨u, r, ?_⟩
    rcases l with l | ⟨k, c, e, z⟩
    · exact .inl l
    · exact .inr ⟨k, c, e, cellK x c e _ z⟩
  · obtain ⟨v, z⟩ := I.cell x c e
    exact ⟨v, cellK x c e v z⟩
  · obtain ⟨m, ⟨o, _, _, ho, _⟩, _⟩ := I.loc
    exact free _ o (fun z => (hch _ z).2.1 rfl) ho I.free
  · obtain ⟨v, o, ho, hd⟩ := I.cell x c e
    exact free c o (fun z => (hch c z).2.2.1 x c e rfl) ho (I.freeC x c e)
  · obtain ⟨e, n, ne, nf, d⟩ := I.pin p hp
    have nch : p.1 ∉ ch := fun z => (hch p.1 z).2.2.2 p hp rfl
    exact ⟨keep p.1 p.2 ne nf nch e n, free p.1 p.2 nch e n, ne, nf, d⟩
theorem Inv.un {t' : Nat} (I : Inv X pins σ H s) (u : Un X.fs [] H H' s.heap h') (hok : HOk X.prog X.w H' h') : Inv X pins σ H' { s with heap := h', toks := t' } := by
  obtain ⟨m, ⟨o, es, ep, ho, r⟩, _⟩ := id I.loc
  obtain ⟨sl, hL⟩ := u.any ho I.free (by simp)
  exact I.step (g' := s.gens) (d' := s.drawn) (ch := []) (fun _ z => nomatch z) (fun b o _ hb _ e n => u.keep b o e n hb (by simp)) (fun b o _ hb _ e n => u.slot b o e n hb (by simp)) (fun b o _ e n => u.free b o e n (by simp)) (fun b o _ e => u.there b o e (by simp)) u.tups u.frzs u.tbls (fun m' hm => by
    obtain ⟨o', es', ep', ho', r'⟩ := hm
    rw [ho] at ho'; cases ho'
    exact ⟨_, es', ep', hL, r'⟩) hok I.bare
theorem Inv.call {g' : Array GenState} {t' : Nat} {d' : Drawn} {ch : List Addr} (I : Inv X pins σ H s) (u : Un (frs X.stack) ch H H' s.heap h') (hok : HOk X.prog X.w H' h') (hg : AllBare g')
    (hch : ∀ b ∈ ch, (b ∈ X.ex ∨ X.s₀.heap.objs.size ≤ b) ∧ b ≠ X.env.locals ∧ (∀ x c, X.env.cells.lookup x = some c → c ≠ b) ∧ ∀ p ∈ X.pn ++ pins, p.1 ≠ b) :
    Inv X pins σ H' { s with heap := h', gens := g', drawn := d', toks := t' } := by
  obtain ⟨m, ⟨o, es, ep, ho, r⟩, _⟩ := id I.loc
  obtain ⟨sl, hL⟩ := u.any ho I.free fun z => (hch _ z).2.1 rfl
  exact I.step (ch := ch) hch (fun b o hL hb hc e n => u.keep b o e n (fun z => (List.mem_cons.mp (I.stkSub b z)).elim hL hb) hc) (fun b o _ _ hc e n => u.any e n hc) (fun b o hc e n => u.free b o e n hc) (fun b o hc e => u.there b o e hc) u.tups u.frzs u.tbls (fun m' hm => by
    obtain ⟨o', es', ep', ho', r'⟩ := hm
    rw [ho] at ho'; cases ho'
    exact ⟨_, es', ep', hL, r'⟩) hok hg
theorem Inv.turned {t' : Nat} {it : Addr} (I : Inv X pins σ H s) (k : ∀ b o, b ≠ it → s.heap.get? b = some o → h'.get? b = some o) (hn : H it = none) (hL : it ≠ X.env.locals)
    (h1 : it ∈ X.ex ∨ X.s₀.heap.objs.size ≤ it) (h2 : ∀ x c, X.env.cells.lookup x = some c → c ≠ it) (h3 : ∀ p ∈ X.pn ++ pins, p.1 ≠ it) : Inv X pins σ H { s with heap := h', toks := t' } := by
  have nit : ∀ b u, H b = some u → b ≠ it := fun b u e z => by rw [z, hn] at e; cases e
  refine I.step (g' := s.gens) (d' := s.drawn) (ch := [it]) (fun b hb => ?_) (fun b o _ _ hc e _ => k b o (fun z => hc (by simp [z])) e) (fun b o _ _ hc e _ => ⟨o.slots, k b o (fun z => hc (by simp [z])) e⟩) (fun _ _ _ _ n => n)
    (fun b o hc e => ⟨o, k b o (fun z => hc (by simp [z])) e⟩) (fun _ _ e => e) (fun _ _ _ e => e) (fun b ps e => ⟨#[], by rw [e]; simp⟩) (fun m hm => ?_) (fun b u e => ?_) I.bare
  · have e : b = it := by simpa using hb
    subst e
    exact ⟨h1, hL, h2, h3⟩
  · obtain ⟨o, es, ep, ho, r⟩ := hm
    exact ⟨o, es, ep, k _ o (Ne.symm hL) ho, r⟩
  · refine (I.hok b u e).stay (fun c v hc q => k c v ?_ q) (fun _ q => q) fun _ _ q => q
    rcases hc with z | z
    · rw [z]; exact nit b u e
    · exact nit c _ z
theorem Inv.tok (I : Inv X pins σ H s) (t : Nat) : Inv X pins σ H { s with toks := t } := I.un (h' := s.heap) (t' := t) Un.refl I.hok
theorem Inv.kept {t' : Nat} (I : Inv X pins σ H s) (k : ∀ b u, s.heap.get? b = some u → h'.get? b = some u) : Inv X pins σ H { s with heap := h', toks := t' } := I.un (Un.kept k) (I.hok.kept k)
theorem Inv.laid {a : Addr} {o : HO} {t' : Nat} (I : Inv X pins σ H s) (k : ∀ b u, s.heap.get? b = some u → h'.get? b = some u) (hp : s.heap.objs.size ≤ a) (new : ObjOk X.prog X.w (upd H a o) h' a o) :
    Inv X pins σ (upd H a o) { s with heap := h', toks := t' } := I.un (Un.laid k hp (I.hok.fresh hp)) (I.hok.laid k hp new)
theorem Inv.write {x e : Addr} {o : HO} {t' : Nat} (I : Inv X pins σ H s) (mu : Mut (H x)) (he : e = x ∨ H e = some (.own x)) (k : ∀ b u, b ≠ e → s.heap.get? b = some u → h'.get? b = some u) (heo : ∃ u, h'.get? e = some u)
    (new : ObjOk X.prog X.w (upd H x o) h' x o) : Inv X pins σ (upd H x o) { s with heap := h', toks := t' } := I.un (Un.write mu he k heo) (I.hok.write mu he k heo new)
theorem Inv.pins_of {pins' : List (Addr × Obj)} (I : Inv X pins σ H s) (h : ∀ p ∈ pins', s.heap.get? p.1 = some p.2 ∧ H p.1 = none ∧ p.1 ≠ X.env.locals ∧ p.1 ∉ X.fs ∧ ∀ v, p.2.data ≠ .cell v) : Inv X pins' σ H s :=
  ⟨I.ok, I.os, I.bare, I.base, I.loc, I.cell, I.free, I.freeC, fun p hp => (List.mem_append.mp hp).elim (fun z => I.pin p (List.mem_append_left _ z)) (h p), I.hok, I.len⟩

theorem nodup_ix {N : List Str} (hN : N.Nodup) {i j : Nat} {x : Str} (a : N[i]? = some x) (b : N[j]? = some x) : i = j := by
  obtain ⟨h1, e1⟩ := List.getElem?_eq_some_iff.mp a
  obtain ⟨h2, e2⟩ := List.getElem?_eq_some_iff.mp b
  exact (List.getElem_inj hN).mp (e1.trans e2.symm)

theorem store_ok2 {M : Model} {A : Around} {E : Value → Shared → Prop} {i : Nat} {x : Str} {v : V} {u : Value} {Q : Unit → Shared → Prop} (I : Inv X pins σ H s) (hN : X.N.Nodup) (hi : X.N[i]? = some x) (hx : Loc X.env.scope x) (r : RelV v u)
    (h : ∀ s', Inv X pins (σ.set i (some v)) H s' → (∃ a, Heap.SameBut a s.heap s'.heap ∧ (a = X.env.locals ∨ X.env.cells.lookup x = some a)) → Q () s') (hf : X.fn x = true ∨ X.env.scope.names.lookup x = some .local := by first | exact .inl rfl | exact .inr rfl | assumption) : wpAny M A (storeName X.env x u) Q E s := by
  obtain ⟨m, hn, hl⟩ := id I.loc
  have hcls : (X.env.scope.kind == .class || (X.env.scope.kind == .module && X.env.locals != X.env.globals)) = false := by rw [I.ok.kind]; rfl
  have hiσ : i < σ.length := by rw [I.len]; exact (List.getElem?_eq_some_iff.mp hi).1
  have cne := I.cne
  have tracked : ∀ {a : Addr} {h' : Heap}, (∃ o, s.heap.get? a = some o ∧ H a = none) → Heap.SameBut a s.heap h' → HOk X.prog X.w H h' := fun {a h'} ha hs b ob e => by
    obtain ⟨_, _, hfree⟩ := ha
    refine (I.hok b ob e).stay (fun c w' hc q => (hs.2 c ?_).trans q) (fun _ q => q) fun _ _ q => q
    rintro rfl
    rcases hc with rfl | hc
    · rw [hfree] at e; cases e
    · rw [hfree] at hc; cases hc
  rcases hx with hk | hk
  · refine wpAny_storeName_local hk hn (fun h' hn' hs => ?_) hcls
    obtain ⟨oL, _, _, hoL, _⟩ := id hn
    refine h _ ⟨I.ok, I.os, I.bare, ⟨fun b o e n hb hx => ?_, fun b o e n hb hx => ?_, I.base.free, fun b o e hx => ?_, I.base.tups, I.base.frzs, I.base.tbls⟩, ⟨_, hn', fun j y v' e1 e2 e3 => ?_⟩, fun y c e => ?_, I.free, I.freeC, fun p hp => ?_, tracked ⟨oL, hoL, I.free⟩ hs, by simpa using I.len⟩ ⟨_, hs, .inl rfl⟩
    · exact (hs.2 b (Nat.ne_of_lt (Nat.lt_of_lt_of_le (Heap.lt_size e) I.ok.above))).trans (I.base.keep b o e n hb hx)
    · obtain ⟨sl, e1⟩ := I.base.slot b o e n hb hx
      exact ⟨sl, (hs.2 b (Nat.ne_of_lt (Nat.lt_of_lt_of_le (Heap.lt_size e) I.ok.above))).trans e1⟩
    · obtain ⟨o', e1⟩ := I.base.there b o e hx
      exact ⟨o', (hs.2 b (Nat.ne_of_lt (Nat.lt_of_lt_of_le (Heap.lt_size e) I.ok.above))).trans e1⟩
    · by_cases hj : j = i
      · subst hj
        rw [hi] at e1; cases e1
        rw [List.getElem?_set_self hiσ] at e2
        cases e2
        exact ⟨u, r, .inl ⟨hk, by simp⟩⟩
      · rw [List.getElem?_set_ne (Ne.symm hj)] at e2
        obtain ⟨u', r', q⟩ := hl j y v' e1 e2 e3
        refine ⟨u', r', ?_⟩
        rcases q with ⟨k, e⟩ | ⟨k, c, e, z⟩
        · refine .inl ⟨k, ?_⟩
          have : y ≠ x := fun e => hj (nodup_ix hN e1 (e ▸ hi))
          simp [this, e]
        · exact .inr ⟨k, c, e, z.sameBut hs (cne y c e)⟩
    · obtain ⟨w', z⟩ := I.cell y c e
      exact ⟨w', z.sameBut hs (cne y c e)⟩
    · obtain ⟨e, n, ne, nf, d⟩ := I.pin p hp
      exact ⟨(hs.2 p.1 ne).trans e, n, ne, nf, d⟩
  · have hfn : X.fn x = true := by
      rcases hf with z | z
      · exact z
      · rw [z] at hk; cases hk
    obtain ⟨c, hc⟩ := I.ok.has x (.inl hk)
    obtain ⟨w', z⟩ := I.cell x c hc
    refine wpAny_storeName_cell I.ok.kind hk hc z (fun h' hc' hs => ?_)
    obtain ⟨oc, hoc, hocd⟩ := id z
    refine h { s with heap := h' } ⟨I.ok, I.os, I.bare, ⟨fun b o e n hb hx => ?_, fun b o e n hb hx => ?_, I.base.free, fun b o e hx => ?_, I.base.tups, I.base.frzs, I.base.tbls⟩, ⟨m, hn.sameBut hs (Ne.symm (cne x c hc)), fun j y v' e1 e2 e3 => ?_⟩, fun y c' e => ?_, I.free, I.freeC, fun p hp => ?_, tracked ⟨oc, hoc, I.freeC x c hc⟩ hs, by simpa using I.len⟩ ⟨c, hs, .inr hc⟩
    · exact (hs.2 b (Nat.ne_of_lt (Nat.lt_of_lt_of_le (Heap.lt_size e) (I.ok.cab x c hfn hc)))).trans (I.base.keep b o e n hb hx)
    · obtain ⟨sl, e1⟩ := I.base.slot b o e n hb hx
      exact ⟨sl, (hs.2 b (Nat.ne_of_lt (Nat.lt_of_lt_of_le (Heap.lt_size e) (I.ok.cab x c hfn hc)))).trans e1⟩
    · obtain ⟨o', e1⟩ := I.base.there b o e hx
      exact ⟨o', (hs.2 b (Nat.ne_of_lt (Nat.lt_of_lt_of_le (Heap.lt_size e) (I.ok.cab x c hfn hc)))).trans e1⟩
    · by_cases hj : j = i
      · subst hj
        rw [hi] at e1; cases e1
        rw [List.getElem?_set_self hiσ] at e2
        cases e2
        exact ⟨u, r, .inr ⟨.inl hk, c, hc, hc'⟩⟩
      · rw [List.getElem?_set_ne (Ne.symm hj)] at e2
        obtain ⟨u', r', q⟩ := hl j y v' e1 e2 e3
        refine ⟨u', r', ?_⟩
        rcases q with q | ⟨k, c', e, z'⟩
        · exact .inl q
        · refine .inr ⟨k, c', e, z'.sameBut hs ?_⟩
          rintro rfl
          exact hj (nodup_ix hN e1 (I.ok.inj _ _ _ e hc ▸ hi))
    · by_cases hcc : c' = c
      · subst hcc; exact ⟨_, hc'⟩
      · obtain ⟨w2, z2⟩ := I.cell y c' e
        exact ⟨w2, z2.sameBut hs hcc⟩
    · obtain ⟨e, n, ne, nf, d⟩ := I.pin p hp
      refine ⟨(hs.2 p.1 ?_).trans e, n, ne, nf, d⟩
      intro q
      rw [q, hoc] at e
      have q' : oc = p.2 := Option.some.inj e
      exact d w' (by rw [← q']; exact hocd)
theorem store_ok {M : Model} {A : Around} {E : Value → Shared → Prop} {i : Nat} {x : Str} {v : V} {u : Value} {Q : Unit → Shared → Prop} (I : Inv X pins σ H s) (hN : X.N.Nodup) (hi : X.N[i]? = some x) (hx : Loc X.env.scope x) (r : RelV v u)
    (h : ∀ s', Inv X pins (σ.set i (some v)) H s' → Q () s') (hf : X.fn x = true ∨ X.env.scope.names.lookup x = some .local := by first | exact .inl rfl | exact .inr rfl | assumption) : wpAny M A (storeName X.env x u) Q E s :=
  store_ok2 I hN hi hx r (fun s' I' _ => h s' I') hf
theorem Inv.call' {s' : Shared} {ch : List Addr} (I : Inv X pins σ H s) (ho : s'.os = s.os) (u : Un (frs X.stack) ch H H' s.heap s'.heap) (hok : HOk X.prog X.w H' s'.heap) (hg : AllBare s'.gens)
    (hch : ∀ b ∈ ch, (b ∈ X.ex ∨ X.s₀.heap.objs.size ≤ b) ∧ b ≠ X.env.locals ∧ (∀ x c, X.env.cells.lookup x = some c → c ≠ b) ∧ ∀ p ∈ X.pn ++ pins, p.1 ≠ b) : Inv X pins σ H' s' := by
  obtain ⟨h', g', d', t', o'⟩ := s'
  have e : o' = s.os := ho
  subst e
  exact I.call (g' := g') (t' := t') (d' := d') u hok hg hch
end

/-! ### the judgements -/
abbrev XK := Value → Option Addr → Hp → Prop
abbrev St := List (Option V)
abbrev VK := V → Hp → Prop
abbrev TE := St → Hp → VK → Prop
abbrev TT := St → Hp → (Bool → Hp → Prop) → Prop
abbrev TA := St → Hp → (List V → Hp → Prop) → Prop
structure Ends where
  nx : St → Hp → Prop
  rt : VK
  bk : St → Hp → Prop := fun _ _ => False
  ct : St → Hp → Prop := fun _ _ => False
abbrev TS := Ends → St → Hp → Prop

def EP (X : Cx) (pins : List (Addr × Obj)) (σ : St) (Q : VK) (u : Value) (s' : Shared) : Prop := ∃ v H', Inv X pins σ H' s' ∧ RelV v u ∧ Q v H'
def TP (X : Cx) (pins : List (Addr × Obj)) (σ : St) (Q : Bool → Hp → Prop) (b : Bool) (s' : Shared) : Prop := ∃ H', Inv X pins σ H' s' ∧ Q b H'
def AP (X : Cx) (pins : List (Addr × Obj)) (σ : St) (Q : List V → Hp → Prop) (us : List Value) (s' : Shared) : Prop := ∃ vs H', Inv X pins σ H' s' ∧ Vals vs us ∧ Q vs H'
def SP (X : Cx) (pins : List (Addr × Obj)) (D : Ends) (f : Flow) (s' : Shared) : Prop :=
  match f with
  | .next => ∃ σ' H', Inv X pins σ' H' s' ∧ D.nx σ' H'
  | .brk => ∃ σ' H', Inv X pins σ' H' s' ∧ D.bk σ' H'
  | .cont => ∃ σ' H', Inv X pins σ' H' s' ∧ D.ct σ' H'
  | .ret u => ∃ v σ' H', Inv X pins σ' H' s' ∧ RelV v u ∧ D.rt v H'

def PE (X : Cx) (e : Expr) (t : TE) : Prop :=
  ∀ (pins : List (Addr × Obj)) (s : Shared) (σ : St) (H : Hp) (Q : VK), Inv X pins σ H s → t σ H Q → wpAny (model X.prog X.w) X.A (eval e X.env) (EP X pins σ Q) X.xe s
def PT (X : Cx) (e : Expr) (t : TT) : Prop :=
  ∀ (pins : List (Addr × Obj)) (s : Shared) (σ : St) (H : Hp) (Q : Bool → Hp → Prop), Inv X pins σ H s → t σ H Q → wpAny (model X.prog X.w) X.A (isTrue e X.env (eval e X.env)) (TP X pins σ Q) X.xe s
def PW (X : Cx) (e : Expr) (t : TT) : Prop :=
  ∀ (whole : Sem Value) (pins : List (Addr × Obj)) (s : Shared) (σ : St) (H : Hp) (Q : Bool → Hp → Prop), Inv X pins σ H s → t σ H Q → wpAny (model X.prog X.w) X.A (isTrue e X.env whole) (TP X pins σ Q) X.xe s
theorem PW.pt {X : Cx} {e : Expr} {t : TT} (h : PW X e t) : PT X e t := h _
def PA (X : Cx) (es : List Expr) (t : TA) : Prop :=
  ∀ (pos : Pos) (pins : List (Addr × Obj)) (s : Shared) (σ : St) (H : Hp) (Q : List V → Hp → Prop), Inv X pins σ H s → t σ H Q → wpAny (model X.prog X.w) X.A (spliced (backTo pos (starEach es X.env))) (AP X pins σ Q) X.xe s
def PS (X : Cx) (st : Stmt) (t : TS) : Prop :=
  ∀ (pins : List (Addr × Obj)) (s : Shared) (σ : St) (H : Hp) (D : Ends), Inv X pins σ H s → t D σ H → wpAny (model X.prog X.w) X.A (exec st X.env) (SP X pins D) X.xe s
def PSs (X : Cx) (st : List Stmt) (t : TS) : Prop :=
  ∀ (pins : List (Addr × Obj)) (s : Shared) (σ : St) (H : Hp) (D : Ends), Inv X pins σ H s → t D σ H → wpAny (model X.prog X.w) X.A (execs st X.env) (SP X pins D) X.xe s
theorem thn {α : Type} {t : Sem α} {Q Q' : α → Shared → Prop} {M : Model} {A : Around} {E : Value → Shared → Prop} {s : Shared} (h : wpAny M A t Q E s) (hQ : ∀ a s, Q a s → Q' a s) : wpAny M A t Q' E s := wpAny_mono h hQ fun _ _ x => x
end L2

namespace L2
open PySem PySem.Spec PyProof.Rows
section
variable {X : Cx}

theorem bin {a b : Expr} {ta tb : TE} (ha : PE X a ta) (hb : PE X b tb) {pins : List (Addr × Obj)} {s : Shared} {σ : St} {H : Hp} {R : V → V → Hp → Prop} (I : Inv X pins σ H s) (h : ta σ H fun x H1 => tb σ H1 fun y H2 => R x y H2)
    {α : Type} {Q : α → Shared → Prop} {f : Value → Value → Sem α}
    (hf : ∀ v u s2 x y H2, Inv X pins σ H2 s2 → RelV x v → RelV y u → R x y H2 → wpAny (model X.prog X.w) X.A (f v u) Q X.xe s2) :
    wpAny (model X.prog X.w) X.A (eval a X.env) (fun v s₁ => wpAny (model X.prog X.w) X.A (eval b X.env) (fun u s₂ => wpAny (model X.prog X.w) X.A (f v u) Q X.xe s₂) X.xe s₁) X.xe s := by
  refine thn (ha pins s σ H _ I h) fun v s1 ⟨x, H1, I1, r1, q1⟩ => ?_
  refine thn (hb pins s1 σ H1 _ I1 q1) fun u s2 ⟨y, H2, I2, r2, q2⟩ => ?_
  exact hf v u s2 x y H2 I2 r1 r2 q2

/-! ### names and constants -/
def tVar (i : Nat) : TE := fun σ H Q => ∃ v, σ[i]? = some (some v) ∧ Q v H
def tC (v : V) : TE := fun _ H Q => Q v H
theorem pe_var {i : Nat} {x : Str} {pos : Pos} (hN : X.N[i]? = some x) (hv : Vis X.env.scope x) (hd : (x == ("__debug__" : Str)) = false := by decide) (hcd : (x == ("__classdict__" : Str)) = false := by decide) : PE X (.Name x pos) (tVar i) := by
  intro pins s σ H Q I h
  obtain ⟨v, e, h⟩ := h
  obtain ⟨m, hn, hl⟩ := I.loc
  obtain ⟨u, r, l⟩ := hl i x v hN e hv
  have fin : EP X pins σ Q u s := ⟨v, H, I, r, h⟩
  rcases l with ⟨hk, hm⟩ | ⟨hk, c, hc, hcell⟩
  · exact wpAny_Name (wpAny_loadName_local I.ok.kind hk hn hm fin) hd
  · rcases hk with hk | hk
    · exact wpAny_Name (wpAny_loadName_cell I.ok.kind hk hc hcell fin) hd
    · exact wpAny_Name (wpAny_loadName_free I.ok.kind hk hc hcell fin hcd) hd
theorem pe_int {i j pos} : PE X (.Constant (.int i) j pos) (tC (.int i)) := fun _ _ _ H _ I h => wpAny_Constant_int ⟨.int i, H, I.tok _, ⟨_, rfl⟩, h⟩
theorem pe_bl {b j pos} : PE X (.Constant (.bool b) j pos) (tC (.bl b)) := fun _ _ _ H _ I h => Constant_bool ⟨.bl b, H, I, rfl, h⟩
theorem pe_non {j pos} : PE X (.Constant .none j pos) (tC .non) := fun _ _ _ H _ I h => Constant_none ⟨.non, H, I, rfl, h⟩
theorem pe_str {x j pos} : PE X (.Constant (.str x) j pos) (tC (.str x)) := fun _ _ _ H _ I h => Calls.Constant_str ⟨.str x, H, I.tok _, ⟨_, rfl⟩, h⟩

def Gl (X : Cx) (x : Str) : Prop := X.env.kindOf x = some .globalImplicit
theorem ld_glob {E : Value → Shared → Prop} {pins : List (Addr × Obj)} {s : Shared} {σ : St} {H : Hp} {x : Str} {u : Value} {pos : Pos} {Q : Value → Shared → Prop} (I : Inv X pins σ H s) (hg : Gl X x) (hm : X.mg x = some u) (h : Q u s)
    (hd : (x == ("__debug__" : Str)) = false := by decide) : wpAny (model X.prog X.w) X.A (eval (.Name x pos) X.env) Q E s :=
  Calls.Name_function_global I.ok.kind hg (Calls.loadGlobal_global (by rw [I.ok.glob]; exact I.mod.glob.keeps I.bk) hm h) hd
theorem ld_blt {E : Value → Shared → Prop} {pins : List (Addr × Obj)} {s : Shared} {σ : St} {H : Hp} {x : Str} {u : Value} {pos : Pos} {Q : Value → Shared → Prop} (I : Inv X pins σ H s) (hg : Gl X x) (hm : X.mg x = none) (hv : bootBuiltins x = some u) (h : Q u s)
    (hn : x ≠ "__name__" := by decide) (hd : (x == ("__debug__" : Str)) = false := by decide) : wpAny (model X.prog X.w) X.A (eval (.Name x pos) X.env) Q E s := by
  obtain ⟨mb, h1, h2⟩ := I.mod.blt
  exact Calls.Name_function_global I.ok.kind hg (Calls.loadGlobal_builtin (by rw [I.ok.glob]; exact I.mod.glob.keeps I.bk) hm (by rw [I.ok.blt]; exact h1.keeps I.bk) ((h2 x hn).trans hv) h) hd
theorem pe_glob {x : Str} {v : V} {u : Value} {pos : Pos} (hg : Gl X x) (hm : X.mg x = some u) (r : RelV v u) (hd : (x == ("__debug__" : Str)) = false := by decide) : PE X (.Name x pos) (tC v) :=
  fun _ _ _ H _ I h => ld_glob I hg hm ⟨v, H, I, r, h⟩ hd
theorem pe_bltn {x : Str} {v : V} {u : Value} {pos : Pos} (hg : Gl X x) (hm : X.mg x = none) (hv : bootBuiltins x = some u) (r : RelV v u) (hn : x ≠ "__name__" := by decide) (hd : (x == ("__debug__" : Str)) = false := by decide) : PE X (.Name x pos) (tC v) :=
  fun _ _ _ H _ I h => ld_blt I hg hm hv ⟨v, H, I, r, h⟩ hn hd

/-! ### arithmetic -/
variable {a b : Expr} {ta tb : TE} {pos : Pos}
/-! ### comparisons -/
def PC (X : Cx) (op : CmpOp) (a b : Expr) (t : TE) : Prop :=
  ∀ (pins : List (Addr × Obj)) (s : Shared) (σ : St) (H : Hp) (Q : VK), Inv X pins σ H s → t σ H Q →
    wpAny (model X.prog X.w) X.A (eval a X.env) (fun v s₁ => wpAny (model X.prog X.w) X.A (eval b X.env) (fun u s₂ => wpAny (model X.prog X.w) X.A (compareOp op v u) (EP X pins σ Q) X.xe s₂) X.xe s₁) X.xe s
def tB (t : TE) : TT := fun σ H Q => t σ H fun x H1 => ∃ c, x = .bl c ∧ Q c H1
theorem pt_cmp {op : CmpOp} {t : TE} (h : PC X op a b t) (h1 : behindInMarks op b = false := by first | exact nobehind _ (by decide) (by decide) | rfl) : PT X (.Compare a [op] [b] pos) (tB t) := by
  intro pins s σ H Q I hw
  refine wpAny_isTrue_Compare1 (thn (h pins s σ H _ I hw) fun v s1 h1 => thn h1 fun u s2 h2 => thn h2 fun c s3 ⟨x, H1, I1, r1, q1⟩ => ?_) h1
  obtain ⟨d, rfl, q⟩ := q1
  cases r1
  exact wpAny_truthy_bool ⟨H1, I1, q⟩
theorem pt_val {e : Expr} {t : TE} (h : PE X e t) (he : ∀ whole, isTrue e X.env whole = (do let v ← whole; standAt e.pos; holding [v] (truthy v)) := by intro _; rfl) : PT X e (tB t) := by
  intro pins s σ H Q I hw
  refine isTrue_plain (thn (h pins s σ H _ I hw) fun v s1 ⟨x, H1, I1, r1, q1⟩ => ?_) (he _)
  obtain ⟨d, rfl, q⟩ := q1
  cases r1
  exact wpAny_truthy_bool ⟨H1, I1, q⟩

/-! ### and, or, not -/
variable {tA tB' : TT} {rest : List Expr}
def tAnd (t u : TT) : TT := fun σ H Q => t σ H fun c H1 => if c = true then u σ H1 Q else Q false H1
def tOr (t u : TT) : TT := fun σ H Q => t σ H fun c H1 => if c = true then Q true H1 else u σ H1 Q
def tNot (t : TT) : TT := fun σ H Q => t σ H fun c H1 => Q (!c) H1
theorem pw_and1 (ha : PT X a tA) : PW X (.BoolOp .And [a] pos) tA := by
  intro wh pins s σ H Q I h
  refine isTrue_and (thn (ha pins s σ H Q I h) fun c s1 e => ?_)
  cases c with
  | true => exact isTrue_and_nil e
  | false => exact e
theorem pw_or1 (ha : PT X a tA) : PW X (.BoolOp .Or [a] pos) tA := by
  intro wh pins s σ H Q I h
  refine isTrue_or (thn (ha pins s σ H Q I h) fun c s1 e => ?_)
  cases c with
  | false => exact isTrue_or_nil e
  | true => exact e
theorem pw_and (ha : PT X a tA) (hb : PW X (.BoolOp .And (b :: rest) pos) tB') : PW X (.BoolOp .And (a :: b :: rest) pos) (tAnd tA tB') := by
  intro wh pins s σ H Q I h
  refine isTrue_and (thn (ha pins s σ H _ I h) fun c s1 ⟨H1, I1, q1⟩ => ?_)
  cases c with
  | true => exact hb wh pins s1 σ H1 Q I1 q1
  | false => exact ⟨H1, I1, q1⟩
theorem pw_or (ha : PT X a tA) (hb : PW X (.BoolOp .Or (b :: rest) pos) tB') : PW X (.BoolOp .Or (a :: b :: rest) pos) (tOr tA tB') := by
  intro wh pins s σ H Q I h
  refine isTrue_or (thn (ha pins s σ H _ I h) fun c s1 ⟨H1, I1, q1⟩ => ?_)
  cases c with
  | true => exact ⟨H1, I1, q1⟩
  | false => exact hb wh pins s1 σ H1 Q I1 q1
theorem pt_not (ha : PT X a tA) : PT X (.UnaryOp .Not a pos) (tNot tA) := by
  intro pins s σ H Q I h
  exact isTrue_not (ha pins s σ H (fun c H1 => Q (!c) H1) I h)
def tAndV (ta tb : TE) : TE := fun σ H Q => ta σ H fun x H1 => ∃ c, x = .bl c ∧ if c = true then tb σ H1 Q else Q (.bl false) H1
def tOrV (ta tb : TE) : TE := fun σ H Q => ta σ H fun x H1 => ∃ c, x = .bl c ∧ if c = true then Q (.bl true) H1 else tb σ H1 Q
def tNotV (ta : TE) : TE := fun σ H Q => ta σ H fun x H1 => ∃ c, x = .bl c ∧ Q (.bl (!c)) H1
theorem pe_one {op} {t : TE} (h : PE X a t) : PE X (.BoolOp op [a] pos) t := fun pins s σ H Q I hw => BoolOp_one (h pins s σ H Q I hw)
theorem pe_and (ha : PE X a ta) (hb : PE X (.BoolOp .And (b :: rest) pos) tb) : PE X (.BoolOp .And (a :: b :: rest) pos) (tAndV ta tb) := by
  intro pins s σ H Q I h
  refine BoolOp_and (thn (ha pins s σ H _ I h) fun v s1 ⟨x, H1, I1, r1, q1⟩ => ?_)
  obtain ⟨c, rfl, q1⟩ := q1
  cases r1
  refine wpAny_truthy_bool ?_
  cases c with
  | true => exact hb pins s1 σ H1 Q I1 q1
  | false => exact ⟨.bl false, H1, I1, rfl, q1⟩
theorem pe_or (ha : PE X a ta) (hb : PE X (.BoolOp .Or (b :: rest) pos) tb) : PE X (.BoolOp .Or (a :: b :: rest) pos) (tOrV ta tb) := by
  intro pins s σ H Q I h
  refine BoolOp_or (thn (ha pins s σ H _ I h) fun v s1 ⟨x, H1, I1, r1, q1⟩ => ?_)
  obtain ⟨c, rfl, q1⟩ := q1
  cases r1
  refine wpAny_truthy_bool ?_
  cases c with
  | false => exact hb pins s1 σ H1 Q I1 q1
  | true => exact ⟨.bl true, H1, I1, rfl, q1⟩
theorem pe_not (ha : PE X a ta) : PE X (.UnaryOp .Not a pos) (tNotV ta) := by
  intro pins s σ H Q I h
  refine UnaryOp_ (thn (ha pins s σ H _ I h) fun v s1 ⟨x, H1, I1, r1, q1⟩ => ?_)
  obtain ⟨c, rfl, q1⟩ := q1
  cases r1
  exact not_of (wpAny_truthy_bool ⟨.bl (!c), H1, I1, rfl, q1⟩)
def tIf (t : TT) (ta tb : TE) : TE := fun σ H Q => t σ H fun c H1 => if c = true then ta σ H1 Q else tb σ H1 Q
theorem pe_ifExp {c : Expr} (hc : PT X c tA) (ha : PE X a ta) (hb : PE X b tb) : PE X (.IfExp c a b pos) (tIf tA ta tb) := by
  intro pins s σ H Q I h
  refine wpAny_IfExp (thn (hc pins s σ H _ I h) fun d s1 ⟨H1, I1, q1⟩ => ?_)
  cases d with
  | true => exact ha pins s1 σ H1 Q I1 q1
  | false => exact hb pins s1 σ H1 Q I1 q1
end
end L2

namespace L2
open PySem PySem.Spec PyProof.Rows

/-! ### a list, a tuple that is read: tracked, frozen, or an object of the module -/
def SqL (K : PySem.W.Frag) (H : Hp) (a : Addr) (xs : List V) : Prop :=
  Rd H a (.lst xs) ∨
    ∃ (o : Obj) (its : Array Value) (n : Nat), K.lookup a = some o ∧ o.cls = .type "list" ∧ o.dict = none ∧ o.data = .seq its n ∧ its.size ≤ sizeLine ∧ Vals xs its.toList
def SqT (K : PySem.W.Frag) (H : Hp) (a : Addr) (xs : List V) : Prop :=
  Rd H a (.tup xs) ∨
    ∃ (o : Obj) (its : Array Value) (n : Nat), K.lookup a = some o ∧ o.cls = .type "tuple" ∧ o.data = .seq its n ∧ its.size ≤ sizeLine ∧ Vals xs its.toList
def absV : Value → Option V
  | .none => some .non
  | .bool b => some (.bl b)
  | .int i _ => some (.int i)
  | .str x _ => some (.str x)
  | .bytes b _ => some (.byt b)
  | .float b _ => some (.flt b)
  | .ref a => some (.ref a)
  | .type n => some (.ty n)
  | _ => none
theorem RelV.abs {x : V} {u : Value} (r : RelV x u) : absV u = some x := by
  cases x with
  | non => cases r; rfl
  | bl _ => cases r; rfl
  | int _ => obtain ⟨t, rfl⟩ := r; rfl
  | str _ => obtain ⟨t, rfl⟩ := r; rfl
  | byt _ => obtain ⟨t, rfl⟩ := r; rfl
  | flt _ => obtain ⟨t, rfl⟩ := r; rfl
  | ref _ => cases r; rfl
  | ty _ => cases r; rfl
theorem RelV.inj {x y : V} {u : Value} (r : RelV x u) (q : RelV y u) : x = y := Option.some.inj (r.abs.symm.trans q.abs)
theorem Vals.inj {xs ys : List V} {us : List Value} (h : Vals xs us) (h' : Vals ys us) : xs = ys := by
  induction h generalizing ys with
  | nil => cases h'; rfl
  | cons r t ih => cases h' with
    | cons r' t' => rw [r.inj r', ih t']
section
variable {X : Cx} {pins : List (Addr × Obj)} {σ : St} {H : Hp} {s : Shared} {a : Addr} {xs ys : List V}
theorem SqL.of {K : PySem.W.Frag} (h : H a = some (.lst xs)) : SqL K H a xs := .inl (.inl h)
theorem SqT.of {K : PySem.W.Frag} (h : H a = some (.tup xs)) : SqT K H a xs := .inl (.inl h)
theorem Inv.list (I : Inv X pins σ H s) (h : SqL X.K H a xs) : ∃ its : List Value, Vals xs its ∧ PlainL s.heap a its.toArray ∧ xs.length ≤ sizeLine := by
  rcases h with h | ⟨o, its, n, hk, hc, hd, hs, hz, r⟩
  · obtain ⟨z, its, n, r, e⟩ := h.ok I.hok
    exact ⟨its, r, ⟨_, n, e, rfl, rfl, rfl⟩, z⟩
  · refine ⟨its.toList, r, ⟨o, n, I.kIn a o hk, hc, hd, by simpa using hs⟩, ?_⟩
    have e := r.length
    simp only [Array.length_toList] at e
    omega
theorem Inv.tuple (I : Inv X pins σ H s) (h : SqT X.K H a xs) : ∃ its : List Value, Vals xs its ∧ IsTup s.heap a its.toArray ∧ xs.length ≤ sizeLine := by
  rcases h with h | ⟨o, its, n, hk, hc, hs, hz, r⟩
  · obtain ⟨z, its, r, p⟩ := h.ok I.hok
    exact ⟨its, r, p, z⟩
  · refine ⟨its.toList, r, ⟨o, I.kIn a o hk, hc, n, by simpa using hs⟩, ?_⟩
    have e := r.length
    simp only [Array.length_toList] at e
    omega
theorem Inv.list_inj (I : Inv X pins σ H s) (h : SqL X.K H a xs) (h' : SqL X.K H a ys) : xs = ys := by
  obtain ⟨its, r, ⟨o, n, e, _, _, d⟩, _⟩ := I.list h
  obtain ⟨its', r', ⟨o', n', e', _, _, d'⟩, _⟩ := I.list h'
  rw [e] at e'; cases e'
  rw [d] at d'
  injection d' with d1 _
  have : its = its' := by simpa using congrArg Array.toList d1
  subst this
  exact r.inj r'
theorem Inv.tuple_inj (I : Inv X pins σ H s) (h : SqT X.K H a xs) (h' : SqT X.K H a ys) : xs = ys := by
  obtain ⟨its, r, ⟨o, e, _, n, d⟩, _⟩ := I.tuple h
  obtain ⟨its', r', ⟨o', e', _, n', d'⟩, _⟩ := I.tuple h'
  rw [e] at e'; cases e'
  rw [d] at d'
  injection d' with d1 _
  have : its = its' := by simpa using congrArg Array.toList d1
  subst this
  exact r.inj r'
end

/-! ### another wish about exceptions -/
abbrev Cx.wish (X : Cx) (E : Value → Shared → Prop) : Cx := { X with xe := E }
abbrev Cx.nox (X : Cx) : Cx := X.wish fun _ _ => False
theorem Cx.Ok.wish {X : Cx} (ok : X.Ok) (E : Value → Shared → Prop) : (X.wish E).Ok :=
  ⟨ok.mod, ok.kind, ok.glob, ok.blt, ok.above, ok.inj, ok.has, ok.cab, ok.hd, ok.frames, ok.stk, ok.exf, ok.bs, ok.bsz, ok.noex, ok.exfs, ok.funs, ok.frf⟩
theorem Cx.Ok.unwish {X : Cx} {E : Value → Shared → Prop} (ok : (X.wish E).Ok) : X.Ok :=
  ⟨ok.mod, ok.kind, ok.glob, ok.blt, ok.above, ok.inj, ok.has, ok.cab, ok.hd, ok.frames, ok.stk, ok.exf, ok.bs, ok.bsz, ok.noex, ok.exfs, ok.funs, ok.frf⟩
section
variable {X : Cx} {pins : List (Addr × Obj)} {σ : St} {H : Hp} {s : Shared} {E : Value → Shared → Prop}
theorem Inv.wish (I : Inv X pins σ H s) (E : Value → Shared → Prop) : Inv (X.wish E) pins σ H s := ⟨I.ok.wish E, I.os, I.bare, I.base, I.loc, I.cell, I.free, I.freeC, I.pin, I.hok, I.len⟩
theorem Inv.unwish (I : Inv (X.wish E) pins σ H s) : Inv X pins σ H s := ⟨I.ok.unwish, I.os, I.bare, I.base, I.loc, I.cell, I.free, I.freeC, I.pin, I.hok, I.len⟩
theorem SP.unwish {D : Ends} {f : Flow} {s' : Shared} (h : SP (X.wish E) pins D f s') : SP X pins D f s' := by
  cases f with
  | next => obtain ⟨σ', H', I, q⟩ := h; exact ⟨σ', H', I.unwish, q⟩
  | brk => obtain ⟨σ', H', I, q⟩ := h; exact ⟨σ', H', I.unwish, q⟩
  | cont => obtain ⟨σ', H', I, q⟩ := h; exact ⟨σ', H', I.unwish, q⟩
  | ret u => obtain ⟨v, σ', H', I, r, q⟩ := h; exact ⟨v, σ', H', I.unwish, r, q⟩
theorem PSs.nox {st : List Stmt} {t : TS} (h : PSs X.nox st t) : PSs X st t := fun pins s σ H D I hw =>
  wpAny_mono (h pins s σ H D (I.wish _) hw) (fun _ _ q => q.unwish) fun _ _ z => False.elim z
end

/-! ### blocks and small statements -/
section
variable {X : Cx} {st : Stmt} {rest : List Stmt} {t u : TS} {e : Expr} {te : TE} {pos : Pos}
def tNext : TS := fun D σ H => D.nx σ H
def tSeq (t u : TS) : TS := fun D σ H => t { D with nx := u D } σ H
theorem pss_nil : PSs X [] tNext := fun _ _ σ H _ I h => wpAny_execs_nil ⟨σ, H, I, h⟩
theorem pss_cons (h1 : PS X st t) (h2 : PSs X rest u) : PSs X (st :: rest) (tSeq t u) := by
  intro pins s σ H D I h
  refine wpAny_execs_cons (thn (h1 pins s σ H { D with nx := u D } I h) fun f s1 q => ?_)
  cases f with
  | next =>
    obtain ⟨σ', H', I', q⟩ := q
    exact h2 pins s1 σ' H' D I' q
  | ret v => exact q
  | brk => exact q
  | cont => exact q
theorem pss_one (h1 : PS X st t) : PSs X [st] t := by
  intro pins s σ H D I h
  refine wpAny_execs_cons (thn (h1 pins s σ H D I h) fun f s1 q => ?_)
  cases f with
  | next => exact wpAny_execs_nil q
  | ret v => exact q
  | brk => exact q
  | cont => exact q
theorem Inv.quiet {pins : List (Addr × Obj)} {σ : St} {H : Hp} {s : Shared} (I : Inv X pins σ H s) : interactive X.env = false := by simp [interactive, I.ok.kind]
def tDrop (te : TE) : TS := fun D σ H => te σ H fun _ H1 => D.nx σ H1
theorem ps_expr (he : PE X e te) (hs : swapsWith e none pos.line X.env = pure false := by rfl) : PS X (.Expr e pos) (tDrop te) := by
  intro pins s σ H D I h
  exact wpAny_Expr_any (thn (he pins s σ H _ I h) fun v s1 ⟨x, H1, I1, r1, q1⟩ => ⟨σ, H1, I1, q1⟩) I.quiet hs
def tRet (te : TE) : TS := fun D σ H => te σ H D.rt
theorem ps_ret (he : PE X e te) : PS X (.Return (some e) pos) (tRet te) := by
  intro pins s σ H D I h
  exact wpAny_Return_some (thn (he pins s σ H _ I h) fun v s1 ⟨x, H1, I1, r1, q1⟩ => ⟨x, σ, H1, I1, r1, q1⟩)
def tIfS (c : TT) (t u : TS) : TS := fun D σ H => c σ H fun b H1 => if b = true then t D σ H1 else u D σ H1
theorem ps_if {c : Expr} {a b : List Stmt} {tc : TT} (hc : PT X c tc) (ha : PSs X a t) (hb : PSs X b u) : PS X (.If c a b pos) (tIfS tc t u) := by
  intro pins s σ H D I h
  refine wpAny_If (thn (hc pins s σ H _ I h) fun d s1 ⟨H1, I1, q1⟩ => ?_)
  cases d with
  | true => exact ha pins s1 σ H1 D I1 q1
  | false => exact hb pins s1 σ H1 D I1 q1
def tNever : TS := fun _ _ _ => False
theorem ps_never : PS X st tNever := fun _ _ _ _ _ _ h => h.elim
theorem pss_never {sts : List Stmt} : PSs X sts tNever := fun _ _ _ _ _ _ h => h.elim
end

/-! ### targets -/
abbrev TG := V → St → Hp → (St → Hp → Prop) → Prop
abbrev TGs := List V → St → Hp → (St → Hp → Prop) → Prop
def PG (X : Cx) (target : Expr) (t : TG) : Prop :=
  ∀ (pins : List (Addr × Obj)) (s : Shared) (σ : St) (H : Hp) (v : V) (u : Value) (Q : St → Hp → Prop), Inv X pins σ H s → RelV v u → t v σ H Q →
    wpAny (model X.prog X.w) X.A (assign target X.env u) (fun _ s' => ∃ σ' H', Inv X pins σ' H' s' ∧ Q σ' H') X.xe s
def PGs (X : Cx) (ts : List Expr) (t : TGs) : Prop :=
  ∀ (pins : List (Addr × Obj)) (s : Shared) (σ : St) (H : Hp) (vs : List V) (us : List Value) (Q : St → Hp → Prop), Inv X pins σ H s → Vals vs us → t vs σ H Q →
    wpAny (model X.prog X.w) X.A (assignInOrder ((assignEach ts X.env).map (·.2)) us) (fun _ s' => ∃ σ' H', Inv X pins σ' H' s' ∧ Q σ' H') X.xe s
abbrev TSet := V → V → V → Hp → (Hp → Prop) → Prop
def PSet (X : Cx) (t : TSet) : Prop :=
  ∀ (pins : List (Addr × Obj)) (s : Shared) (σ : St) (H : Hp) (o i v : V) (ov iv u : Value) (Q : Hp → Prop), Inv X pins σ H s → RelV o ov → RelV i iv → RelV v u → t o i v H Q →
    wpAny (model X.prog X.w) X.A (setItem ov iv u) (fun _ s' => ∃ H', Inv X pins σ H' s' ∧ Q H') X.xe s
section
variable {X : Cx} {pos : Pos}
def gName (i : Nat) : TG := fun v σ H Q => Q (σ.set i (some v)) H
theorem pg_name {i : Nat} {x : Str} (hN : X.N.Nodup) (hi : X.N[i]? = some x) (hx : Loc X.env.scope x) (hf : X.fn x = true ∨ X.env.scope.names.lookup x = some .local := by first | exact .inl rfl | exact .inr rfl | assumption) : PG X (.Name x pos) (gName i) := by
  intro pins s σ H v u Q I r h
  exact wpAny_assign_Name (store_ok I hN hi hx r (fun s' I' => ⟨_, H, I', h⟩) hf)
def gNil : TGs := fun vs σ H Q => vs = [] ∧ Q σ H
def gCons (t : TG) (u : TGs) : TGs := fun vs σ H Q => ∃ v r, vs = v :: r ∧ t v σ H fun σ' H' => u r σ' H' Q
theorem pgs_nil : PGs X [] gNil := by
  intro pins s σ H vs us Q I r h
  obtain ⟨e, h⟩ := h
  subst e
  cases r
  exact assignInOrder_nil ⟨σ, H, I, h⟩
theorem pgs_cons {e : Expr} {es : List Expr} {t : TG} {u : TGs} (h1 : PG X e t) (h2 : PGs X es u)
    (hs : (assignEach (e :: es) X.env).map (·.2) = assign e X.env :: (assignEach es X.env).map (·.2) := by rfl) : PGs X (e :: es) (gCons t u) := by
  intro pins s σ H vs us Q I r h
  obtain ⟨v, vr, e1, h⟩ := h
  subst e1
  cases r with
  | cons r rr =>
    rw [hs]
    refine assignInOrder_cons (thn (h1 pins s σ H _ _ _ I r h) fun _ s1 ⟨σ1, H1, I1, q1⟩ => ?_)
    exact h2 pins s1 σ1 H1 _ _ Q I1 rr q1
def gTup (K : PySem.W.Frag) (n : Nat) (t : TGs) : TG := fun v σ H Q => ∃ a xs, v = .ref a ∧ SqT K H a xs ∧ xs.length = n ∧ t xs σ H Q
theorem pg_tup {es : List Expr} {k : Nat} {t : TGs} {n : Nat} (hc : X.calm = true) (h : PGs X es t)
    (hn : (assignEach es X.env).length = n := by rfl) (hst : (assignEach es X.env).findIdx? (·.1) = none := by rfl) : PG X (.Tuple es k pos) (gTup X.K n t) := by
  intro pins s σ H v u Q I r hw
  obtain ⟨a, xs, e1, hq, hl, hw⟩ := hw
  subst e1
  cases r
  obtain ⟨its, rv, ht, hz⟩ := I.tuple hq
  refine assign_Tuple_tuple (I.ok.hd hc) ht (by simp [hn, ← hl, rv.length]) hst fun h' hx => ?_
  have I1 : Inv X pins σ H { s with heap := h' } := I.kept (t' := s.toks) fun b o e => hx b o (Nat.ne_of_lt (Heap.lt_size e)) e
  exact h pins _ σ H xs _ Q I1 (by simpa using rv) hw
def gSub (to ti : TE) (t : TSet) : TG := fun v σ H Q => to σ H fun o H1 => ti σ H1 fun i H2 => t o i v H2 fun H3 => Q σ H3
theorem pg_sub {o i : Expr} {to ti : TE} {t : TSet} (ho : PE X o to) (hi : PE X i ti) (hs : PSet X t)
    (ha : ∀ v, assign (.Subscript o i pos) X.env v = (do
      let ov ← holding [v] (eval o X.env)
      let iv ← holding [v, ov] (eval i X.env)
      standAt pos
      holding [v, ov, iv] (setItem ov iv v)
      release [v, ov, iv] []) := by intro _; rfl) : PG X (.Subscript o i pos) (gSub to ti t) := by
  intro pins s σ H v u Q I r h
  rw [ha]
  refine wpAny_bind (wpAny_holding (thn (ho pins s σ H _ I h) fun ov s1 ⟨x, H1, I1, r1, q1⟩ => ?_))
  refine wpAny_bind (wpAny_holding (thn (hi pins s1 σ H1 _ I1 q1) fun iv s2 ⟨y, H2, I2, r2, q2⟩ => ?_))
  refine wpAny_bind (wpAny_standAt (wpAny_bind (wpAny_holding (thn (hs pins s2 σ H2 x y v ov iv u _ I2 r1 r2 r q2) fun _ s3 ⟨H3, I3, q3⟩ => ?_))))
  exact wpAny_release ⟨σ, H3, I3, q3⟩
def tAsg (te : TE) (g : TG) : TS := fun D σ H => te σ H fun x H1 => g x σ H1 D.nx
theorem ps_asg {tg e : Expr} {te : TE} {g : TG} (he : PE X e te) (hg : PG X tg g) (hs : swapsWithSole [tg] e pos.line X.env = pure false := by rfl) (hw : swappedStores [tg] e X.env = pure none := by rfl)
    (h1 : (assignEach [tg] X.env).map (·.2) = [assign tg X.env] := by rfl) : PS X (.Assign [tg] e pos) (tAsg te g) := by
  intro pins s σ H D I h
  refine wpAny_Assign_stores (thn (he pins s σ H _ I h) fun v s1 ⟨x, H1, I1, r1, q1⟩ => ?_) hs hw
  rw [h1]
  exact thn (hg pins s1 σ H1 x v _ I1 r1 q1) fun _ s2 q => q
theorem ps_set {i : Nat} {x : Str} {e : Expr} {te : TE} {pos' : Pos} (hN : X.N.Nodup) (hi : X.N[i]? = some x) (hx : Loc X.env.scope x) (he : PE X e te) (hs : swapsWith e (some (.Name x pos')) pos.line X.env = pure false := by rfl) (hf : X.fn x = true ∨ X.env.scope.names.lookup x = some .local := by first | exact .inl rfl | exact .inr rfl | assumption) :
    PS X (.Assign [.Name x pos'] e pos) (tAsg te (gName i)) := by
  intro pins s σ H D I h
  refine wpAny_Assign_Name (thn (he pins s σ H _ I h) fun v s1 ⟨y, H1, I1, r1, q1⟩ => ?_) hs
  exact store_ok I1 hN hi hx r1 (fun s2 I2 => ⟨_, H1, I2, q1⟩) hf
end

/-! ### while -/
section
variable {X : Cx} {pos : Pos}
def tWhile (c : TT) (tb : TS) : TS := fun D σ H => ∃ W : Nat → St → Hp → Prop, (∃ m, W m σ H) ∧ ∀ m σ H, W m σ H →
  c σ H fun b H1 => if b = true then ∃ N : St → Hp → Prop, (∀ σ' H', N σ' H' → ∃ m', m' < m ∧ W m' σ' H') ∧ tb { D with nx := N, ct := N, bk := D.nx } σ H1 else D.nx σ H1
theorem ps_while {c : Expr} {body : List Stmt} {tc : TT} {tb : TS} (hp : PassesOwn (model X.prog X.w) X.A X.env X.xe) (hc : PT X c tc) (hb : PSs X body tb) : PS X (.While c body [] pos) (tWhile tc tb) := by
  intro pins s σ H D I h
  obtain ⟨W, ⟨m0, w0⟩, turn⟩ := h
  refine wpAny_While (codeAny_whileLoop (fun n s' => ∃ σ' H', Inv X pins σ' H' s' ∧ W n σ' H') ?_ m0 ⟨σ, H, I, w0⟩)
  rintro n s1 ⟨σ1, H1, I1, w1⟩
  refine wpAny_passesOwn hp (thn (hc pins s1 σ1 H1 _ I1 (turn n σ1 H1 w1)) fun b s2 ⟨H2, I2, q2⟩ => ?_)
  cases b with
  | true =>
    obtain ⟨N, hN, q2⟩ := q2
    rw [if_pos rfl]
    refine wpAny_passesOwn hp (thn (hb pins s2 σ1 H2 _ I2 q2) fun f s3 q3 => ?_)
    cases f with
    | next =>
      obtain ⟨σ3, H3, I3, n3⟩ := q3
      obtain ⟨m', hm, w3⟩ := hN σ3 H3 n3
      exact ⟨m', hm, σ3, H3, I3, w3⟩
    | cont =>
      obtain ⟨σ3, H3, I3, n3⟩ := q3
      obtain ⟨m', hm, w3⟩ := hN σ3 H3 n3
      exact ⟨m', hm, σ3, H3, I3, w3⟩
    | brk => exact q3
    | ret v => exact q3
  | false =>
    rw [if_neg Bool.false_ne_true]
    exact wpAny_execs_nil ⟨σ1, H2, I2, q2⟩
end

/-! ### what a loop or a comprehension walks -/
structure It where
  go : Nat → Hp → Prop
  yld : Nat → Hp → V → Hp → Prop
  stop : Nat → Hp → Prop
def FpOk (X : Cx) (pins : List (Addr × Obj)) (H : Hp) (b : Addr) : Prop :=
  H b = none ∧ b ≠ X.env.locals ∧ b ∉ X.fs ∧ (b ∈ X.ex ∨ X.s₀.heap.objs.size ≤ b) ∧ (∀ x c, X.env.cells.lookup x = some c → c ≠ b) ∧ ∀ p ∈ X.pn ++ pins, p.1 ≠ b
theorem Inv.fpOk {X : Cx} {pins : List (Addr × Obj)} {σ : St} {H H' : Hp} {s : Shared} {b : Addr} (I : Inv X pins σ H s) (hb : s.heap.objs.size ≤ b) (hn : H' b = none) : FpOk X pins H' b := by
  refine ⟨hn, Nat.ne_of_gt (Nat.lt_of_lt_of_le I.lt hb), I.nofs hb, .inr (Nat.le_trans I.sz hb), fun x c e z => ?_, fun p hp z => ?_⟩
  · obtain ⟨v, q⟩ := I.cell x c e
    exact absurd (Nat.lt_of_lt_of_le q.lt (by rw [z]; exact hb)) (Nat.lt_irrefl _)
  · exact absurd (Nat.lt_of_lt_of_le (Heap.lt_size (I.pin p hp).1) (by rw [z]; exact hb)) (Nat.lt_irrefl _)
structure Turn (P : Program) (w : World) (K : PySem.W.Frag) (tg : Expr) (J : It) (fp : List Addr) (it : Addr) (tn : Nat → Heap → Prop) : Prop where
  mem : it ∈ fp
  obj : ∀ i h, tn i h → ∀ b ∈ fp, ∃ o, h.get? b = some o ∧ ∀ v, o.data ≠ .cell v
  keep : ∀ i h h', tn i h → (∀ b ∈ fp, ∀ o, h.get? b = some o → h'.get? b = some o) → tn i h'
  item : ∀ (X : Cx), X.prog = P → X.w = w → X.K = K → X.calm = true → ∀ (i : Nat) (pins : List (Addr × Obj)) (s : Shared) (σ : St) (H : Hp) (E : Value → Shared → Prop), Inv X pins σ H s → (∀ b ∈ fp, FpOk X pins H b) → tn i s.heap → J.go i H →
    wpAny (model P w) X.A (pyNext (.ref it)) (fun r s1 => ∃ u, r = some u ∧
      wpAny (model P w) X.A (letOwnedTupleGo tg (.ref it) u) (fun _ s2 => ∃ x H', Inv X pins σ H' s2 ∧ RelV x u ∧ J.yld i H x H' ∧ tn (i + 1) s2.heap ∧ ∀ b ∈ fp, H' b = none) E s1) E s
  done : ∀ (X : Cx), X.prog = P → X.w = w → X.K = K → X.calm = true → ∀ (i : Nat) (pins : List (Addr × Obj)) (s : Shared) (σ : St) (H : Hp) (E : Value → Shared → Prop), Inv X pins σ H s → (∀ b ∈ fp, FpOk X pins H b) → tn i s.heap → J.stop i H →
    wpAny (model P w) X.A (pyNext (.ref it)) (fun r s1 => r = none ∧ Inv X pins σ H s1) E s
  self : ∀ (A : Around) (i : Nat) (s : Shared) (Q : Value → Shared → Prop) (E : Value → Shared → Prop), tn i s.heap → Q (.ref it) s → wpAny (model P w) A (pyIter (.ref it)) Q E s
abbrev TI := St → Hp → (It → Hp → Prop) → Prop
def PIE (X : Cx) (pins : List (Addr × Obj)) (σ : St) (tg : Expr) (R : It → Hp → Prop) (itv : Value) (s2 : Shared) : Prop :=
  ∃ (it : Addr) (fp : List Addr) (tn : Nat → Heap → Prop) (J : It) (H' : Hp), itv = .ref it ∧ Inv X pins σ H' s2 ∧ Turn X.prog X.w X.K tg J fp it tn ∧ tn 0 s2.heap ∧ (∀ b ∈ fp, FpOk X pins H' b) ∧ R J H'
def PI (X : Cx) (tg iter : Expr) (wi : TI) : Prop :=
  ∀ (pins : List (Addr × Obj)) (s : Shared) (σ : St) (H : Hp) (R : It → Hp → Prop), Inv X pins σ H s → wi σ H R →
    wpAny (model X.prog X.w) X.A (eval iter X.env) (fun v s1 => wpAny (model X.prog X.w) X.A (pyIter v) (PIE X pins σ tg R) X.xe s1) X.xe s

theorem go_of {M : Model} {A : Around} {E : Value → Shared → Prop} {s : Shared} {tg : Expr} {it : Addr} {u : Value} {o : Obj} {n : String} {vs : Array Value} {Q : Unit → Shared → Prop} (ho : s.heap.get? it = some o) (hc : o.cls = .type n) (hd : o.data = .fields vs)
    (hn : ["enumerate", "zip", "dict_itemiterator", "dict_reverseitemiterator", "odict_iterator", "itertools.zip_longest", "itertools.pairwise"].contains n = false) (hQ : Q () s) : wpAny M A (letOwnedTupleGo tg (.ref it) u) Q E s := by
  unfold letOwnedTupleGo
  cases tg <;> first
    | exact wpAny_pure hQ
    | (cases u <;> first
        | exact wpAny_pure hQ
        | (refine wpAny_bind (wpAny_load ho ?_)
           rw [hc, hd]
           show wpAny M A (if (["enumerate", "zip", "dict_itemiterator", "dict_reverseitemiterator", "odict_iterator", "itertools.zip_longest", "itertools.pairwise"].contains n && vs[0]? == some (rawInt _)) = true then _ else _) Q E s
           rw [if_neg (by intro h; rw [hn, Bool.false_and] at h; cases h)]
           exact wpAny_pure hQ))

def Itl (K : PySem.W.Frag) (a : Addr) : It :=
  ⟨fun i H => ∃ xs x, SqL K H a xs ∧ xs[i]? = some x, fun i H x H' => H' = H ∧ ∀ xs, SqL K H a xs → xs[i]? = some x, fun i H => ∃ xs, SqL K H a xs ∧ xs.length ≤ i⟩
def Itt (K : PySem.W.Frag) (a : Addr) : It :=
  ⟨fun i H => ∃ xs x, SqT K H a xs ∧ xs[i]? = some x, fun i H x H' => H' = H ∧ ∀ xs, SqT K H a xs → xs[i]? = some x, fun i H => ∃ xs, SqT K H a xs ∧ xs.length ≤ i⟩
def Itr (lo : Int) (n : Nat) : It := ⟨fun i _ => i < n, fun i H x H' => H' = H ∧ x = .int (lo + i), fun i _ => n ≤ i⟩
theorem turn_list {P : Program} {w : World} {K : PySem.W.Frag} {tg : Expr} (a it : Addr) : Turn P w K tg (Itl K a) [it] it (fun i h => h.IsListIter it a i) where
  mem := by simp
  obj := fun i h st b hb => by
    have e : b = it := by simpa using hb
    subst e
    obtain ⟨o, e, c, d⟩ := st
    exact ⟨o, e, fun v z => by rw [d] at z; cases z⟩
  keep := fun i h h' st k => st.at fun o e => k it (by simp) o e
  item := by
    intro X hP hw hK hc i pins s σ H E I hf st hg
    subst hP hw hK
    obtain ⟨xs, x, hq, hx⟩ := hg
    obtain ⟨its, rv, p, hz⟩ := I.list hq
    obtain ⟨u, hu, ru⟩ := rv.get hx
    obtain ⟨f0, f1, f2, f3, f4, f5⟩ := hf it (by simp)
    refine wpAny_pyNext_list_item st p.isList (x := u) (by simpa using hu) fun h' st' sb => ?_
    have I1 : Inv X pins σ H { s with heap := h' } := I.turned (t' := s.toks) (fun b o hb e => (sb.2 b hb).trans e) f0 f1 f3 f4 f5
    obtain ⟨o, e, c, d⟩ := id st'
    exact ⟨u, rfl, go_of (s := { s with heap := h' }) e c d (by decide) ⟨x, H, I1, ru, ⟨rfl, fun ys hy => by rw [I.list_inj hy hq]; exact hx⟩, st', fun b hb => (hf b hb).1⟩⟩
  done := by
    intro X hP hw hK hc i pins s σ H E I hf st hg
    subst hP hw hK
    obtain ⟨xs, hq, hx⟩ := hg
    obtain ⟨its, rv, p, hz⟩ := I.list hq
    obtain ⟨f0, f1, f2, f3, f4, f5⟩ := hf it (by simp)
    have hl := rv.length
    exact wpAny_pyNext_list_end (I.ok.hd hc) st p.isList (by simp; omega) fun h' eb => ⟨rfl, I.turned (t' := s.toks) (fun b o hb e => eb b o hb e) f0 f1 f3 f4 f5⟩
  self := fun _ _ _ _ _ st h => wpAny_pyIter_listiter st h
theorem turn_tuple {P : Program} {w : World} {K : PySem.W.Frag} {tg : Expr} (a it : Addr) : Turn P w K tg (Itt K a) [it] it (fun i h => h.IsTupleIter it a i) where
  mem := by simp
  obj := fun i h st b hb => by
    have e : b = it := by simpa using hb
    subst e
    obtain ⟨o, e, c, d⟩ := st
    exact ⟨o, e, fun v z => by rw [d] at z; cases z⟩
  keep := fun i h h' st k => st.at fun o e => k it (by simp) o e
  item := by
    intro X hP hw hK hc i pins s σ H E I hf st hg
    subst hP hw hK
    obtain ⟨xs, x, hq, hx⟩ := hg
    obtain ⟨its, rv, p, hz⟩ := I.tuple hq
    obtain ⟨u, hu, ru⟩ := rv.get hx
    obtain ⟨f0, f1, f2, f3, f4, f5⟩ := hf it (by simp)
    refine wpAny_pyNext_tuple_item st (show s.heap.IsTuple a its.toArray from p) (x := u) (by simpa using hu) fun h' st' sb => ?_
    have I1 : Inv X pins σ H { s with heap := h' } := I.turned (t' := s.toks) (fun b o hb e => (sb.2 b hb).trans e) f0 f1 f3 f4 f5
    obtain ⟨o, e, c, d⟩ := id st'
    exact ⟨u, rfl, go_of (s := { s with heap := h' }) e c d (by decide) ⟨x, H, I1, ru, ⟨rfl, fun ys hy => by rw [I.tuple_inj hy hq]; exact hx⟩, st', fun b hb => (hf b hb).1⟩⟩
  done := by
    intro X hP hw hK hc i pins s σ H E I hf st hg
    subst hP hw hK
    obtain ⟨xs, hq, hx⟩ := hg
    obtain ⟨its, rv, p, hz⟩ := I.tuple hq
    obtain ⟨f0, f1, f2, f3, f4, f5⟩ := hf it (by simp)
    have hl := rv.length
    exact wpAny_pyNext_tuple_end (I.ok.hd hc) st (show s.heap.IsTuple a its.toArray from p) (by simp; omega) fun h' eb => ⟨rfl, I.turned (t' := s.toks) (fun b o hb e => eb b o hb e) f0 f1 f3 f4 f5⟩
  self := fun _ _ _ _ _ st h => wpAny_pyIter_tupleiter st h
theorem turn_range {P : Program} {w : World} {K : PySem.W.Frag} {tg : Expr} (it : Addr) (lo : Int) (n : Nat) : Turn P w K tg (Itr lo n) [it] it (fun i h => IsRangeIter h it (lo + (i : Nat) * 1) ((n : Int) - (i : Nat)) 1) where
  mem := by simp
  obj := fun i h st b hb => by
    have e : b = it := by simpa using hb
    subst e
    exact ⟨_, st, fun v z => by
      have z' : Data.fields _ = Data.cell v := z
      cases z'⟩
  keep := fun i h h' st k => k it (by simp) _ st
  item := by
    intro X hP hw hK hc i pins s σ H E I hf st hg
    subst hP hw hK
    obtain ⟨f0, f1, f2, f3, f4, f5⟩ := hf it (by simp)
    have W := Walks.range (prog := X.prog) (w := X.w) (I.ok.hd hc) it lo 1 n
    refine W.item i s _ _ hg st fun v h' tk hv st' kk => ?_
    obtain ⟨t, rfl⟩ := hv
    have I1 : Inv X pins σ H { s with heap := h', toks := tk } := I.turned (fun b o hb e => kk b o (by simpa using hb) e) f0 f1 f3 f4 f5
    refine ⟨_, rfl, go_of (s := { s with heap := h', toks := tk }) (n := "range_iterator") st' rfl rfl (by decide) ⟨.int (lo + i), H, I1, ⟨t, ?_⟩, ⟨rfl, rfl⟩, st', fun b hb => (hf b hb).1⟩⟩
    rw [Int.mul_one]
  done := by
    intro X hP hw hK hc i pins s σ H E I hf st hg
    subst hP hw hK
    obtain ⟨f0, f1, f2, f3, f4, f5⟩ := hf it (by simp)
    exact wpAny_pyNext_range_end (I.ok.hd hc) st (by have : n ≤ i := hg; omega) fun h' eb => ⟨rfl, I.turned (t' := s.toks) (fun b o hb e => eb b o hb e) f0 f1 f3 f4 f5⟩
  self := fun _ _ _ _ _ st h => wpAny_pyIter_rangeiter st h
end L2

namespace L2
open PySem PySem.Spec PyProof.Rows
section
variable {X : Cx} {tg : Expr}
def iList (K : PySem.W.Frag) (tl : TE) : TI := fun σ H R => tl σ H fun x H1 => ∃ a, x = .ref a ∧ (∃ xs, SqL K H1 a xs) ∧ R (Itl K a) H1
def iTup (K : PySem.W.Frag) (tl : TE) : TI := fun σ H R => tl σ H fun x H1 => ∃ a, x = .ref a ∧ (∃ xs, SqT K H1 a xs) ∧ R (Itt K a) H1
theorem pi_list {l : Expr} {tl : TE} (hl : PE X l tl) : PI X tg l (iList X.K tl) := by
  intro pins s σ H R I h
  refine thn (hl pins s σ H _ I h) fun v s1 ⟨x, H1, I1, r1, q1⟩ => ?_
  obtain ⟨a, e, ⟨xs, hq⟩, q⟩ := q1
  subst e
  cases r1
  obtain ⟨its, rv, p, hz⟩ := I1.list hq
  refine wpAny_pyIter_list p.isList ?_
  refine ⟨s1.heap.objs.size, [s1.heap.objs.size], _, _, H1, rfl, I1.kept (t' := s1.toks) fun b o e => Heap.get?_push_of_some _ e, turn_list a _, ⟨_, Heap.get?_push_size _ rfl, rfl, rfl⟩, fun b hb => ?_, q⟩
  have e : b = s1.heap.objs.size := by simpa using hb
  subst e
  exact I1.fpOk (Nat.le_refl _) (I1.hok.fresh (Nat.le_refl _))
theorem pi_tup {l : Expr} {tl : TE} (hl : PE X l tl) : PI X tg l (iTup X.K tl) := by
  intro pins s σ H R I h
  refine thn (hl pins s σ H _ I h) fun v s1 ⟨x, H1, I1, r1, q1⟩ => ?_
  obtain ⟨a, e, ⟨xs, hq⟩, q⟩ := q1
  subst e
  cases r1
  obtain ⟨its, rv, p, hz⟩ := I1.tuple hq
  refine wpAny_pyIter_tuple (show s1.heap.IsTuple a its.toArray from p) ?_
  refine ⟨s1.heap.objs.size, [s1.heap.objs.size], _, _, H1, rfl, I1.kept (t' := s1.toks) fun b o e => Heap.get?_push_of_some _ e, turn_tuple a _, ⟨_, Heap.get?_push_size _ rfl, rfl, rfl⟩, fun b hb => ?_, q⟩
  have e : b = s1.heap.objs.size := by simpa using hb
  subst e
  exact I1.fpOk (Nat.le_refl _) (I1.hok.fresh (Nat.le_refl _))
theorem range_it {pins : List (Addr × Obj)} {σ : St} {H : Hp} {s : Shared} {R : It → Hp → Prop} {E : Value → Shared → Prop} {lo hi : Int} {t u v : Tok} {tk : Nat} (I : Inv X pins σ H s) (h1 : -(2 ^ 62) ≤ lo) (h2 : lo < 2 ^ 62) (h3 : -(2 ^ 62) ≤ hi) (h4 : hi < 2 ^ 62)
    (q : R (Itr lo (hi - lo).toNat) H) : wpAny (model X.prog X.w) X.A (pyIter (.ref s.heap.objs.size)) (PIE X pins σ tg R) E { s with heap := s.heap.push { cls := .type "range", data := .fields #[.int lo t, .int hi u, .int 1 v] }, toks := tk } := by
  refine wpAny_pyIter_range (IsRange.new ..) (small_one h1 h2 h3 h4) ?_
  have I1 : Inv X pins σ H { s with heap := s.heap.push { cls := .type "range", data := .fields #[.int lo t, .int hi u, .int 1 v] }, toks := tk } := I.kept fun b o e => Heap.get?_push_of_some _ e
  refine ⟨(s.heap.push { cls := .type "range", data := .fields #[.int lo t, .int hi u, .int 1 v] }).objs.size, [(s.heap.push { cls := .type "range", data := .fields #[.int lo t, .int hi u, .int 1 v] }).objs.size], _, _, H, rfl,
    I1.kept (t' := tk) fun b o e => Heap.get?_push_of_some _ e, turn_range _ lo (hi - lo).toNat, ?_, fun b hb => ?_, q⟩
  · have e1 : lo + ((0 : Nat) : Int) * 1 = lo := by simp
    have e2 : (((hi - lo).toNat : Nat) : Int) - ((0 : Nat) : Int) = Builtin.Range.rangeSize lo hi 1 := by rw [rangeSize_one]; split <;> omega
    show IsRangeIter _ _ (lo + ((0 : Nat) : Int) * 1) ((((hi - lo).toNat : Nat) : Int) - ((0 : Nat) : Int)) 1
    rw [e1, e2]
    exact Heap.get?_push_size _ rfl
  · have e : b = (s.heap.push { cls := .type "range", data := .fields #[.int lo t, .int hi u, .int 1 v] }).objs.size := by simpa using hb
    subst e
    exact I1.fpOk (Nat.le_refl _) (I1.hok.fresh (Nat.le_refl _))
def iRng1 (ta : TA) : TI := fun σ H R => ta σ H fun vs H1 => ∃ j : Int, vs = [.int j] ∧ -(2 ^ 62) ≤ j ∧ j < 2 ^ 62 ∧ R (Itr 0 j.toNat) H1
theorem pi_range1 {a : Expr} {ta : TA} {p pos : Pos} (hg : Gl X "range") (hm : X.mg "range" = none) (ha : PA X [a] ta) (hs : starEach [a] X.env = [(false, eval a X.env)] := by rfl) : PI X tg (.Call (.Name "range" p) [a] [] pos) (iRng1 ta) := by
  intro pins s σ H R I h
  refine Call_ (ld_blt I hg hm boot_range (PyProof.Rows.callWith_type1 (thn (ha pos pins s σ H _ I h) fun us s1 ⟨vs, H1, I1, r1, q1⟩ => ?_) hs rfl))
  obtain ⟨j, e, q1, q2, q⟩ := q1
  subst e
  cases r1 with
  | cons r rr =>
    cases rr
    obtain ⟨t, rfl⟩ := r
    exact call_range_1 (range_it I1 (by omega) (by omega) q1 q2 (by simpa using q))
/-! ### for -/
def tFor (wi : TI) (g : TG) (tb : TS) : TS := fun D σ H => wi σ H fun J H1 => ∃ W : Nat → Nat → St → Hp → Prop, (∃ m, W 0 m σ H1) ∧ ∀ i m σ H, W i m σ H →
  (J.stop i H ∧ D.nx σ H) ∨ (J.go i H ∧ ∃ N : St → Hp → Prop, (∀ σ' H', N σ' H' → ∃ m', m' < m ∧ W (i + 1) m' σ' H') ∧ ∀ x H', J.yld i H x H' → g x σ H' fun σ2 H2 => tb { D with nx := N, ct := N, bk := D.nx } σ2 H2)
def pinsAt (fp : List Addr) (h : Heap) : List (Addr × Obj) := fp.filterMap fun b => (h.get? b).map fun o => (b, o)
theorem mem_pinsAt {fp : List Addr} {h : Heap} {b : Addr} {o : Obj} (hb : b ∈ fp) (e : h.get? b = some o) : (b, o) ∈ pinsAt fp h := List.mem_filterMap.mpr ⟨b, hb, by rw [e]; rfl⟩
theorem of_pinsAt {fp : List Addr} {h : Heap} {p : Addr × Obj} (hp : p ∈ pinsAt fp h) : p.1 ∈ fp ∧ h.get? p.1 = some p.2 := by
  obtain ⟨b, hb, e⟩ := List.mem_filterMap.mp hp
  cases q : h.get? b with
  | none => rw [q] at e; cases e
  | some o =>
    rw [q] at e
    have e' : (b, o) = p := Option.some.inj e
    subst e'
    exact ⟨hb, q⟩
theorem Inv.pinned {pins : List (Addr × Obj)} {σ : St} {H : Hp} {s : Shared} {fp : List Addr} (I : Inv X pins σ H s) (hf : ∀ b ∈ fp, FpOk X pins H b) (ho : ∀ b ∈ fp, ∃ o, s.heap.get? b = some o ∧ ∀ v, o.data ≠ .cell v) : Inv X (pins ++ pinsAt fp s.heap) σ H s :=
  I.pins_of fun p hp => (List.mem_append.mp hp).elim (fun z => I.pin p (List.mem_append_right _ z)) fun z => by
    obtain ⟨hb, e⟩ := of_pinsAt z
    obtain ⟨f0, f1, f2, _⟩ := hf p.1 hb
    obtain ⟨o, e', d⟩ := ho p.1 hb
    rw [e] at e'; cases e'
    exact ⟨e, f0, f1, f2, d⟩
theorem Inv.unpinned {pins pl : List (Addr × Obj)} {σ : St} {H : Hp} {s : Shared} (I : Inv X (pins ++ pl) σ H s) : Inv X pins σ H s := I.pins_of fun p hp => I.pin p (List.mem_append_right _ (List.mem_append_left _ hp))
theorem ps_for {iter : Expr} {body : List Stmt} {wi : TI} {g : TG} {tb : TS} {pos : Pos} (hp : PassesOwn (model X.prog X.w) X.A X.env X.xe) (hc : X.calm = true) (hi : PI X tg iter wi) (hg : PG X tg g) (hb : PSs X body tb)
    (hs : ∀ x, foldedSetIterable iter X.env x = pure x := by intro _; rfl) : PS X (.For tg iter body [] pos) (tFor wi g tb) := by
  intro pins s σ H D I h
  refine wpAny_For (thn (hi pins s σ H _ I h) fun v s1 h1 => thn h1 fun itv s2 h2 => ?_) hs
  obtain ⟨it, fp, tn, J, H2, e, I2, T, st2, f2, W, ⟨m0, w0⟩, turn⟩ := h2
  subst e
  -- what stays true of the iterator's objects through the loop
  have stat : ∀ {H' : Hp}, (∀ b ∈ fp, H' b = none) → ∀ b ∈ fp, FpOk X pins H' b := fun hn b hb => ⟨hn b hb, (f2 b hb).2⟩
  refine codeAny_forLoop_any (fun n s' => ∃ i σ' H', Inv X pins σ' H' s' ∧ tn i s'.heap ∧ (∀ b ∈ fp, H' b = none) ∧ W i n σ' H') ?_ m0 ⟨0, σ, H2, I2, st2, fun b hb => (f2 b hb).1, w0⟩
  rintro n s3 ⟨i, σ3, H3, I3, st3, fr3, w3⟩
  rcases turn i n σ3 H3 w3 with ⟨stop, qn⟩ | ⟨go, N, hN, step⟩
  · refine wpAny_passesOwn hp (thn (T.done X rfl rfl rfl hc i pins s3 σ3 H3 X.xe I3 (stat fr3) st3 stop) fun r s4 ⟨hr, I4⟩ => ?_)
    subst hr
    exact wpAny_execs_nil ⟨σ3, H3, I4, qn⟩
  · refine wpAny_passesOwn hp (thn (T.item X rfl rfl rfl hc i pins s3 σ3 H3 X.xe I3 (stat fr3) st3 go) fun r s4 ⟨u, hr, h4⟩ => ?_)
    subst hr
    refine wpAny_passesOwn hp (thn h4 fun _ s5 ⟨x, H5, I5, r5, y5, st5, fr5⟩ => ?_)
    have I5' := I5.pinned (stat fr5) (T.obj _ _ st5)
    refine wpAny_passesOwn hp (thn (hg _ s5 σ3 H5 x u _ I5' r5 (step x H5 y5)) fun _ s6 ⟨σ6, H6, I6, q6⟩ => ?_)
    refine wpAny_passesOwn hp (thn (hb _ s6 σ6 H6 _ I6 q6) fun f s7 q7 => ?_)
    have again : ∀ {σ7 : St} {H7 : Hp}, Inv X (pins ++ pinsAt fp s5.heap) σ7 H7 s7 → N σ7 H7 → ∃ m, m < n ∧ ∃ i σ' H', Inv X pins σ' H' s7 ∧ tn i s7.heap ∧ (∀ b ∈ fp, H' b = none) ∧ W i m σ' H' := fun {σ7 H7} I7 n7 => by
      obtain ⟨m', hm, w7⟩ := hN σ7 H7 n7
      refine ⟨m', hm, i + 1, σ7, H7, I7.unpinned, T.keep _ _ _ st5 fun b hb o e => (I7.pin (b, o) (List.mem_append_right _ (List.mem_append_right _ (mem_pinsAt hb e)))).1, fun b hb => ?_, w7⟩
      obtain ⟨o, e, d⟩ := T.obj _ _ st5 b hb
      exact (I7.pin (b, o) (List.mem_append_right _ (List.mem_append_right _ (mem_pinsAt hb e)))).2.1
    cases f with
    | next => obtain ⟨σ7, H7, I7, n7⟩ := q7; exact again I7 n7
    | cont => obtain ⟨σ7, H7, I7, n7⟩ := q7; exact again I7 n7
    | brk => obtain ⟨σ7, H7, I7, q7⟩ := q7; exact ⟨σ7, H7, I7.unpinned, q7⟩
    | ret v => obtain ⟨x7, σ7, H7, I7, r7, q7⟩ := q7; exact ⟨x7, σ7, H7, I7.unpinned, r7, q7⟩
end

/-! ### the forms one uses -/
theorem for_list {K : PySem.W.Frag} {a : Addr} {xs : List V} {g : TG} {tb : TS} {D : Ends} {σ : St} {H : Hp} (Pv : Nat → St → Hp → Prop) (h0 : Pv 0 σ H) (hl : ∀ i σ H, i ≤ xs.length → Pv i σ H → SqL K H a xs)
    (hs : ∀ i x σ H, xs[i]? = some x → Pv i σ H → g x σ H fun σ2 H2 => tb { D with nx := Pv (i + 1), ct := Pv (i + 1), bk := D.nx } σ2 H2) (hd : ∀ σ H, Pv xs.length σ H → D.nx σ H) :
    ∃ W : Nat → Nat → St → Hp → Prop, (∃ m, W 0 m σ H) ∧ ∀ i m σ H, W i m σ H →
      ((Itl K a).stop i H ∧ D.nx σ H) ∨ ((Itl K a).go i H ∧ ∃ N : St → Hp → Prop, (∀ σ' H', N σ' H' → ∃ m', m' < m ∧ W (i + 1) m' σ' H') ∧ ∀ x H', (Itl K a).yld i H x H' → g x σ H' fun σ2 H2 => tb { D with nx := N, ct := N, bk := D.nx } σ2 H2) := by
  refine ⟨fun i m σ H => m = xs.length - i ∧ i ≤ xs.length ∧ Pv i σ H, ⟨xs.length, by simp, Nat.zero_le _, h0⟩, ?_⟩
  rintro i m σ H ⟨rfl, hi, p⟩
  have q := hl i σ H hi p
  by_cases hlt : i < xs.length
  · refine .inr ⟨⟨xs, xs[i], q, by simp [hlt]⟩, Pv (i + 1), fun σ' H' p' => ⟨xs.length - (i + 1), by omega, rfl, hlt, p'⟩, fun x H' y => ?_⟩
    obtain ⟨e, y⟩ := y
    subst e
    exact hs i x σ _ (y xs q) p
  · have e : i = xs.length := by omega
    subst e
    exact .inl ⟨⟨xs, q, Nat.le_refl _⟩, hd σ H p⟩
theorem for_range {lo : Int} {n : Nat} {g : TG} {tb : TS} {D : Ends} {σ : St} {H : Hp} (Pv : Nat → St → Hp → Prop) (h0 : Pv 0 σ H)
    (hs : ∀ i σ H, i < n → Pv i σ H → g (.int (lo + i)) σ H fun σ2 H2 => tb { D with nx := Pv (i + 1), ct := Pv (i + 1), bk := D.nx } σ2 H2) (hd : ∀ σ H, Pv n σ H → D.nx σ H) :
    ∃ W : Nat → Nat → St → Hp → Prop, (∃ m, W 0 m σ H) ∧ ∀ i m σ H, W i m σ H →
      ((Itr lo n).stop i H ∧ D.nx σ H) ∨ ((Itr lo n).go i H ∧ ∃ N : St → Hp → Prop, (∀ σ' H', N σ' H' → ∃ m', m' < m ∧ W (i + 1) m' σ' H') ∧ ∀ x H', (Itr lo n).yld i H x H' → g x σ H' fun σ2 H2 => tb { D with nx := N, ct := N, bk := D.nx } σ2 H2) := by
  refine ⟨fun i m σ H => m = n - i ∧ i ≤ n ∧ Pv i σ H, ⟨n, by simp, Nat.zero_le _, h0⟩, ?_⟩
  rintro i m σ H ⟨rfl, hi, p⟩
  by_cases hlt : i < n
  · refine .inr ⟨hlt, Pv (i + 1), fun σ' H' p' => ⟨n - (i + 1), by omega, rfl, hlt, p'⟩, fun x H' y => ?_⟩
    obtain ⟨e, y⟩ := y
    subst e y
    exact hs i σ _ hlt p
  · have e : i = n := by omega
    subst e
    exact .inl ⟨Nat.le_refl _, hd σ H p⟩
end L2

namespace L2
open PySem PySem.Spec PyProof.Rows

abbrev R2 := V → V → Hp → VK → Prop
def OpR (X : Cx) (f : Value → Value → Sem Value) (r : R2) : Prop :=
  ∀ (pins : List (Addr × Obj)) (s : Shared) (σ : St) (H : Hp) (x y : V) (v u : Value) (Q : VK), Inv X pins σ H s → RelV x v → RelV y u → r x y H Q →
    wpAny (model X.prog X.w) X.A (f v u) (EP X pins σ Q) X.xe s
def UnR (X : Cx) (f : Value → Sem Value) (r : V → Hp → VK → Prop) : Prop :=
  ∀ (pins : List (Addr × Obj)) (s : Shared) (σ : St) (H : Hp) (x : V) (v : Value) (Q : VK), Inv X pins σ H s → RelV x v → r x H Q →
    wpAny (model X.prog X.w) X.A (f v) (EP X pins σ Q) X.xe s
def CallR (X : Cx) (f : Value) (r : List V → Hp → VK → Prop) : Prop :=
  ∀ (pins : List (Addr × Obj)) (s : Shared) (σ : St) (H : Hp) (xs : List V) (us : List Value) (Q : VK), Inv X pins σ H s → Vals xs us → r xs H Q →
    wpAny (model X.prog X.w) X.A (call f us) (EP X pins σ Q) X.xe s
def TruR (X : Cx) (r : V → Hp → (Bool → Hp → Prop) → Prop) : Prop :=
  ∀ (pins : List (Addr × Obj)) (s : Shared) (σ : St) (H : Hp) (x : V) (v : Value) (Q : Bool → Hp → Prop), Inv X pins σ H s → RelV x v → r x H Q →
    wpAny (model X.prog X.w) X.A (truthy v) (TP X pins σ Q) X.xe s

def tOp (r : R2) (ta tb : TE) : TE := fun σ H Q => ta σ H fun x H1 => tb σ H1 fun y H2 => r x y H2 Q
def tUn (r : V → Hp → VK → Prop) (ta : TE) : TE := fun σ H Q => ta σ H fun x H1 => r x H1 Q
def rI (C : Int → Int → Prop) (g : Int → Int → V) : R2 := fun x y H Q => ∃ i j, x = .int i ∧ y = .int j ∧ C i j ∧ Q (g i j) H
def rI0 (g : Int → Int → V) : R2 := fun x y H Q => ∃ i j, x = .int i ∧ y = .int j ∧ Q (g i j) H
def rU (g : Int → V) : V → Hp → VK → Prop := fun x H Q => ∃ i, x = .int i ∧ Q (g i) H

section
variable {X : Cx} {a b c : Expr} {ta tb tc : TE} {pos : Pos}

theorem binT (ha : PE X a ta) (hb : PE X b tb) {pins : List (Addr × Obj)} {s : Shared} {σ : St} {H : Hp} {R : V → V → Hp → Prop} (I : Inv X pins σ H s)
    (h : ta σ H fun x H1 => tb σ H1 fun y H2 => R x y H2) {Q : Value → Shared → Prop} {f : Value → Value → Sem Value}
    (hf : ∀ v u s2 x y H2, Inv X pins σ H2 s2 → RelV x v → RelV y u → R x y H2 → wpAny (model X.prog X.w) X.A (f v u) Q X.xe s2) :
    wpAny (model X.prog X.w) X.A (eval a X.env) (fun v s₁ => wpAny (model X.prog X.w) X.A (eval b X.env) (fun u s₂ => wpAny (model X.prog X.w) X.A (f v u) Q X.xe s₂) X.xe s₁) X.xe s := by
  refine thn (ha pins s σ H _ I h) fun v s1 ⟨x, H1, I1, r1, q1⟩ => ?_
  refine thn (hb pins s1 σ H1 _ I1 q1) fun u s2 ⟨y, H2, I2, r2, q2⟩ => ?_
  exact hf v u s2 x y H2 I2 r1 r2 q2

theorem pe_op {op : Operator} {r : R2} (ho : OpR X (binaryOp op) r) (ha : PE X a ta) (hb : PE X b tb) : PE X (.BinOp a op b pos) (tOp r ta tb) := by
  intro pins s σ H Q I h
  exact wpAny_BinOp (binT ha hb I h fun v u s2 x y H2 I2 rx ry q => ho pins s2 σ H2 x y v u Q I2 rx ry q)
theorem pe_un {op : UnaryOp} {r : V → Hp → VK → Prop} (ho : UnR X (unaryOp op) r) (ha : PE X a ta) : PE X (.UnaryOp op a pos) (tUn r ta) := by
  intro pins s σ H Q I h
  exact UnaryOp_ (thn (ha pins s σ H _ I h) fun v s1 ⟨x, H1, I1, r1, q1⟩ => ho pins s1 σ H1 x v Q I1 r1 q1)
/-! ### ints -/
theorem opI {f : Value → Value → Sem Value} {C : Int → Int → Prop} {g : Int → Int → Int}
    (rule : ∀ (i j : Int) (t u : Tok) (s : Shared) (Q : Value → Shared → Prop) (E : Value → Shared → Prop), C i j → Q (.int (g i j) s.toks) { s with toks := s.toks + 1 } → wpAny (model X.prog X.w) X.A (f (.int i t) (.int j u)) Q E s) :
    OpR X f (rI C fun i j => .int (g i j)) := by
  intro pins s σ H x y v u Q I rx ry h
  obtain ⟨i, j, rfl, rfl, hc, q⟩ := h
  obtain ⟨t, rfl⟩ := rx
  obtain ⟨t', rfl⟩ := ry
  exact rule i j t t' s _ _ hc ⟨.int (g i j), H, I.tok _, ⟨_, rfl⟩, q⟩
theorem opI0 {f : Value → Value → Sem Value} {g : Int → Int → Int}
    (rule : ∀ (i j : Int) (t u : Tok) (s : Shared) (Q : Value → Shared → Prop) (E : Value → Shared → Prop), Q (.int (g i j) s.toks) { s with toks := s.toks + 1 } → wpAny (model X.prog X.w) X.A (f (.int i t) (.int j u)) Q E s) :
    OpR X f (rI0 fun i j => .int (g i j)) := by
  intro pins s σ H x y v u Q I rx ry h
  obtain ⟨i, j, rfl, rfl, q⟩ := h
  obtain ⟨t, rfl⟩ := rx
  obtain ⟨t', rfl⟩ := ry
  exact rule i j t t' s _ _ ⟨.int (g i j), H, I.tok _, ⟨_, rfl⟩, q⟩
theorem opB0 {f : Value → Value → Sem Value} {g : Int → Int → Bool}
    (rule : ∀ (i j : Int) (t u : Tok) (s : Shared) (Q : Value → Shared → Prop) (E : Value → Shared → Prop), Q (.bool (g i j)) s → wpAny (model X.prog X.w) X.A (f (.int i t) (.int j u)) Q E s) :
    OpR X f (rI0 fun i j => .bl (g i j)) := by
  intro pins s σ H x y v u Q I rx ry h
  obtain ⟨i, j, rfl, rfl, q⟩ := h
  obtain ⟨t, rfl⟩ := rx
  obtain ⟨t', rfl⟩ := ry
  exact rule i j t t' s _ _ ⟨.bl (g i j), H, I, rfl, q⟩

def CDiv (i j : Int) : Prop := 0 < j ∧ j < 1073741824
def CPow (i j : Int) : Prop := 0 ≤ j ∧ j ≤ 1000000 ∧ i.natAbs < 2 ^ 64
def CMul (i j : Int) : Prop := (-(2 ^ 64) < i ∧ i < 2 ^ 64) ∨ (-(2 ^ 64) < j ∧ j < 2 ^ 64)
theorem CMul.ok {i j : Int} (h : CMul i j) : IntMulOk i j := by
  rcases h with ⟨h1, h2⟩ | ⟨h1, h2⟩
  · exact .of_left (intBits_le_64 h1 h2)
  · exact .of_right (intBits_le_64 h1 h2)
theorem two_pow_nn (k : Nat) : (0 : Int) ≤ 2 ^ k := by
  rw [two_pow_cast]
  exact Int.natCast_nonneg _

theorem op_add : OpR X (binaryOp .Add) (rI0 fun i j => .int (i + j)) := opI0 fun _ _ _ _ _ _ _ q => add_int q
theorem op_sub : OpR X (binaryOp .Sub) (rI0 fun i j => .int (i - j)) := opI0 fun _ _ _ _ _ _ _ q => sub_int q
theorem op_mul : OpR X (binaryOp .Mult) (rI CMul fun i j => .int (i * j)) := opI fun _ _ _ _ _ _ _ hc q => mul_int q hc.ok
theorem op_fdiv : OpR X (binaryOp .FloorDiv) (rI CDiv fun i j => .int (i / j)) := opI fun i j _ _ _ _ _ hc q => by
  have h1 : (0 : Int) < j := hc.1
  have h2 : j < 1073741824 := hc.2
  exact floordiv_int (by omega) (by rw [Int.fdiv_eq_ediv_of_nonneg i (by omega)]; exact q) (.inl (PyProof.noPylong_small (by omega)))
theorem op_mod : OpR X (binaryOp .Mod) (rI (fun _ j => 0 < j) fun i j => .int (i % j)) := opI fun i j _ _ _ _ _ hc q => by
  have h1 : (0 : Int) < j := hc
  exact mod_int' (by omega) (by rw [Int.fmod_eq_emod_of_nonneg i (by omega)]; exact q)
theorem op_pow : OpR X (binaryOp .Pow) (rI CPow fun i j => .int (i ^ j.toNat)) := opI fun _ _ _ _ _ _ _ hc q => pow_int_small hc.1 hc.2.1 hc.2.2 q
theorem op_shr : OpR X (binaryOp .RShift) (rI (fun _ j => 0 ≤ j) fun i j => .int (i / 2 ^ j.toNat)) := opI fun i j _ _ _ _ _ hc q =>
  rshift_int hc (by rw [Int.fdiv_eq_ediv_of_nonneg i (two_pow_nn _)]; exact q)
theorem op_and : OpR X (binaryOp .BitAnd) (rI0 fun i j => .int (Builtin.bitAnd i j)) := opI0 fun _ _ _ _ _ _ _ q => and_int q
theorem op_or : OpR X (binaryOp .BitOr) (rI0 fun i j => .int (Builtin.bitOr i j)) := opI0 fun _ _ _ _ _ _ _ q => or_int q
theorem op_xor : OpR X (binaryOp .BitXor) (rI0 fun i j => .int (Builtin.bitXor i j)) := opI0 fun _ _ _ _ _ _ _ q => xor_int q

theorem unI {f : Value → Sem Value} {g : Int → Int}
    (rule : ∀ (i : Int) (t : Tok) (s : Shared) (Q : Value → Shared → Prop) (E : Value → Shared → Prop), Q (.int (g i) s.toks) { s with toks := s.toks + 1 } → wpAny (model X.prog X.w) X.A (f (.int i t)) Q E s) :
    UnR X f (rU fun i => .int (g i)) := by
  intro pins s σ H x v Q I rx h
  obtain ⟨i, rfl, q⟩ := h
  obtain ⟨t, rfl⟩ := rx
  exact rule i t s _ _ ⟨.int (g i), H, I.tok _, ⟨_, rfl⟩, q⟩
theorem un_neg : UnR X (unaryOp .USub) (rU fun i => .int (-i)) := unI fun _ _ _ _ _ q => neg_int q
theorem un_inv : UnR X (unaryOp .Invert) (rU fun i => .int (Builtin.bitNot i)) := unI fun _ _ _ _ _ q => invert_int q

/-! ### bools among ints: n += (a < b) -/
end

/-! ### comparisons -/
def scal : V → V → Bool
  | .non, .non => true | .non, .int _ => true | .int _, .non => true | .non, .bl _ => true | .bl _, .non => true | .non, .str _ => true | .str _, .non => true
  | .int _, .int _ => true | .bl _, .bl _ => true | .str _, .str _ => true | .byt _, .byt _ => true
  | .int _, .str _ => true | .str _, .int _ => true | .bl _, .str _ => true | .str _, .bl _ => true
  | _, _ => false
def rEq : R2 := fun x y H Q => scal x y = true ∧ Q (.bl (decide (x = y))) H
def rNe : R2 := fun x y H Q => scal x y = true ∧ Q (.bl (!decide (x = y))) H

theorem dec_int {i j : Int} : decide (V.int i = V.int j) = (i == j) := by
  rw [Bool.eq_iff_iff]
  simp
theorem dec_bl {i j : Bool} : decide (V.bl i = V.bl j) = (i == j) := by
  rw [Bool.eq_iff_iff]
  simp
theorem dec_str {i j : Str} : decide (V.str i = V.str j) = (i == j) := by
  rw [Bool.eq_iff_iff]
  simp
theorem dec_byt {i j : Array UInt8} : decide (V.byt i = V.byt j) = (i.toList == j.toList) := by
  rw [Bool.eq_iff_iff]
  cases i
  cases j
  simp

section
variable {X : Cx} {a b c : Expr} {ta tb tc : TE} {pos : Pos}
theorem fin_bl {pins : List (Addr × Obj)} {σ : St} {H : Hp} {s : Shared} {Q : VK} {k k' : Bool} (I : Inv X pins σ H s) (q : Q (.bl k) H) (e : k = k') : EP X pins σ Q (.bool k') s := by
  subst e
  exact ⟨.bl k, H, I, rfl, q⟩
theorem op_eq : OpR X (compareOp .Eq) rEq := by
  intro pins s σ H x y v u Q I rx ry h
  obtain ⟨hs, q⟩ := h
  cases x with
  | non =>
    cases rx
    cases y with
    | non => cases ry; exact PySem.EqNone.eq_none_none (fin_bl I q (by simp))
    | bl j => cases ry; exact PySem.EqNone.eq_none_bool (fin_bl I q (by simp))
    | int j => obtain ⟨t', rfl⟩ := ry; exact PySem.EqNone.eq_none_int (fin_bl I q (by simp))
    | str j => obtain ⟨t', rfl⟩ := ry; exact PySem.EqNone.eq_none_str (fin_bl I q (by simp))
    | _ => exact absurd (show false = true from hs) Bool.false_ne_true
  | bl i =>
    cases rx
    cases y with
    | non => cases ry; exact PySem.EqNone.eq_bool_none (fin_bl I q (by simp))
    | bl j => cases ry; exact eq_bool (fin_bl I q dec_bl)
    | str j => obtain ⟨t', rfl⟩ := ry; exact PySem.EqMixed.eq_bool_str (fin_bl I q (by simp))
    | _ => exact absurd (show false = true from hs) Bool.false_ne_true
  | int i =>
    obtain ⟨t, rfl⟩ := rx
    cases y with
    | non => cases ry; exact PySem.EqNone.eq_int_none (fin_bl I q (by simp))
    | int j => obtain ⟨t', rfl⟩ := ry; exact eq_int (fin_bl I q dec_int)
    | str j => obtain ⟨t', rfl⟩ := ry; exact PySem.EqMixed.eq_int_str (fin_bl I q (by simp))
    | _ => exact absurd (show false = true from hs) Bool.false_ne_true
  | str i =>
    obtain ⟨t, rfl⟩ := rx
    cases y with
    | non => cases ry; exact PySem.EqNone.eq_str_none (fin_bl I q (by simp))
    | bl j => cases ry; exact PySem.EqMixed.eq_str_bool (fin_bl I q (by simp))
    | int j => obtain ⟨t', rfl⟩ := ry; exact PySem.EqMixed.eq_str_int (fin_bl I q (by simp))
    | str j => obtain ⟨t', rfl⟩ := ry; exact eq_str (fin_bl I q dec_str)
    | _ => exact absurd (show false = true from hs) Bool.false_ne_true
  | byt i =>
    obtain ⟨t, rfl⟩ := rx
    cases y with
    | byt j => obtain ⟨t', rfl⟩ := ry; exact PySem.W.eq_bytes (fin_bl I q dec_byt)
    | _ => exact absurd (show false = true from hs) Bool.false_ne_true
  | _ => cases y <;> exact absurd (show false = true from hs) Bool.false_ne_true
theorem op_ne : OpR X (compareOp .NotEq) rNe := by
  intro pins s σ H x y v u Q I rx ry h
  obtain ⟨hs, q⟩ := h
  cases x with
  | non =>
    cases rx
    cases y with
    | non => cases ry; exact PySem.EqNone.ne_none_none (fin_bl I q (by simp))
    | bl j => cases ry; exact PySem.EqNone.ne_none_bool (fin_bl I q (by simp))
    | int j => obtain ⟨t', rfl⟩ := ry; exact PySem.EqNone.ne_none_int (fin_bl I q (by simp))
    | str j => obtain ⟨t', rfl⟩ := ry; exact PySem.EqNone.ne_none_str (fin_bl I q (by simp))
    | _ => exact absurd (show false = true from hs) Bool.false_ne_true
  | bl i =>
    cases rx
    cases y with
    | non => cases ry; exact PySem.EqNone.ne_bool_none (fin_bl I q (by simp))
    | bl j => cases ry; exact ne_bool (fin_bl I q (congrArg not dec_bl))
    | str j => obtain ⟨t', rfl⟩ := ry; exact PySem.EqMixed.ne_bool_str (fin_bl I q (by simp))
    | _ => exact absurd (show false = true from hs) Bool.false_ne_true
  | int i =>
    obtain ⟨t, rfl⟩ := rx
    cases y with
    | non => cases ry; exact PySem.EqNone.ne_int_none (fin_bl I q (by simp))
    | int j => obtain ⟨t', rfl⟩ := ry; exact ne_int (fin_bl I q (congrArg not dec_int))
    | str j => obtain ⟨t', rfl⟩ := ry; exact PySem.EqMixed.ne_int_str (fin_bl I q (by simp))
    | _ => exact absurd (show false = true from hs) Bool.false_ne_true
  | str i =>
    obtain ⟨t, rfl⟩ := rx
    cases y with
    | non => cases ry; exact PySem.EqNone.ne_str_none (fin_bl I q (by simp))
    | bl j => cases ry; exact PySem.EqMixed.ne_str_bool (fin_bl I q (by simp))
    | int j => obtain ⟨t', rfl⟩ := ry; exact PySem.EqMixed.ne_str_int (fin_bl I q (by simp))
    | str j => obtain ⟨t', rfl⟩ := ry; exact ne_str (fin_bl I q (congrArg not dec_str))
    | _ => exact absurd (show false = true from hs) Bool.false_ne_true
  | byt i =>
    obtain ⟨t, rfl⟩ := rx
    cases y with
    | byt j => obtain ⟨t', rfl⟩ := ry; exact PySem.W.ne_bytes (fin_bl I q (congrArg not dec_byt))
    | _ => exact absurd (show false = true from hs) Bool.false_ne_true
  | _ => cases y <;> exact absurd (show false = true from hs) Bool.false_ne_true

theorem op_lt : OpR X (compareOp .Lt) (rI0 fun i j => .bl (decide (i < j))) := opB0 fun _ _ _ _ _ _ _ q => lt_int q
theorem op_le : OpR X (compareOp .LtE) (rI0 fun i j => .bl (decide (i ≤ j))) := opB0 fun _ _ _ _ _ _ _ q => le_int q
theorem op_gt : OpR X (compareOp .Gt) (rI0 fun i j => .bl (decide (j < i))) := opB0 fun _ _ _ _ _ _ _ q => gt_int q
theorem op_ge : OpR X (compareOp .GtE) (rI0 fun i j => .bl (decide (j ≤ i))) := opB0 fun _ _ _ _ _ _ _ q => ge_int q
theorem op_notN : OpR X (compareOp .IsNot) (fun x y H Q => y = .non ∧ Q (.bl (!decide (x = .non))) H) := by
  intro pins s σ H x y v u Q I rx ry h
  obtain ⟨rfl, q⟩ := h
  cases ry
  refine isnot_none_gen (fin_bl I q ?_)
  cases x <;> first
    | (cases rx; rfl)
    | (obtain ⟨t, rfl⟩ := rx; rfl)

theorem nomark (b : Expr) {op : CmpOp} (h : op ≠ .In := by decide) (h2 : op ≠ .NotIn := by decide) : behindInMarks op b = false := by
  have e1 : (op == CmpOp.In) = false := by cases op <;> first | rfl | exact absurd rfl h
  have e2 : (op == CmpOp.NotIn) = false := by cases op <;> first | rfl | exact absurd rfl h2
  cases b <;> simp [behindInMarks, e1, e2]
theorem pe_cmpR {op : CmpOp} {r : R2} (ho : OpR X (compareOp op) r) (ha : PE X a ta) (hb : PE X b tb) (hm : behindInMarks op b = false) : PE X (.Compare a [op] [b] pos) (tOp r ta tb) := by
  intro pins s σ H Q I h
  exact wpAny_Compare1 (binT ha hb I h fun v u s2 x y H2 I2 rx ry q => ho pins s2 σ H2 x y v u Q I2 rx ry q) hm
def tTest (t : TE) : TT := fun σ H Q => t σ H fun x H' => ∃ k, x = .bl k ∧ Q k H'
theorem pt_cmpR {op : CmpOp} {r : R2} (ho : OpR X (compareOp op) r) (ha : PE X a ta) (hb : PE X b tb) (hm : behindInMarks op b = false) : PT X (.Compare a [op] [b] pos) (tTest (tOp r ta tb)) := by
  intro pins s σ H Q I h
  refine wpAny_isTrue_Compare1 (thn (ha pins s σ H _ I h) fun v s1 ⟨x, H1, I1, r1, q1⟩ => thn (hb pins s1 σ H1 _ I1 q1) fun u s2 ⟨y, H2, I2, r2, q2⟩ =>
    thn (ho pins s2 σ H2 x y v u _ I2 r1 r2 q2) fun c s3 ⟨z, H3, I3, r3, k, e, q3⟩ => ?_) hm
  subst e
  cases r3
  exact wpAny_truthy_bool ⟨H3, I3, q3⟩
/-! ### truth -/
def TruV (K : PySem.W.Frag) (x : V) (H : Hp) (k : Bool) : Prop :=
  match x with
  | .non => k = false
  | .bl b => k = b
  | .int i => k = (i != 0)
  | .str y => y.length ≤ sizeLine ∧ k = ((y.length : Int) != 0)
  | .byt y => y.size ≤ sizeLine ∧ k = ((y.size : Int) != 0)
  | .ref p => (∃ xs, SqL K H p xs ∧ k = !xs.isEmpty) ∨ (∃ xs, SqT K H p xs ∧ k = !xs.isEmpty) ∨ ∃ kvs, H p = some (.dK kvs) ∧ k = !kvs.isEmpty
  | _ => False
theorem isEmpty_kv {κ : Type} {kvs : List (κ × V)} {vs : List (κ × Value)} (r : KV kvs vs) : (!vs.isEmpty) = !kvs.isEmpty := by
  cases r <;> rfl
theorem isEmpty_of {xs : List V} {its : List Value} (r : Vals xs its) : (!its.toArray.isEmpty) = !xs.isEmpty := by
  cases r <;> simp
theorem line63 : (sizeLine : Nat) < 2 ^ 63 := by rw [sizeLine_eq]; decide
theorem tru_ok : TruR X (fun x H Q => ∃ k, TruV X.K x H k ∧ Q k H) := by
  intro pins s σ H x v Q I rx h
  obtain ⟨k, e, q⟩ := h
  have hl := line63
  have hs : sizeLine = 16777216 := sizeLine_eq
  cases x with
  | non =>
    cases rx
    have e' : k = false := e
    subst e'
    exact truthy_none ⟨H, I, q⟩
  | bl b =>
    cases rx
    have e' : k = b := e
    subst e'
    exact wpAny_truthy_bool ⟨H, I, q⟩
  | int i =>
    obtain ⟨t, rfl⟩ := rx
    have e' : k = (i != 0) := e
    subst e'
    exact PySem.P.truthy_int ⟨H, I, q⟩
  | str y =>
    obtain ⟨t, rfl⟩ := rx
    obtain ⟨hy, e'⟩ : y.length ≤ sizeLine ∧ k = ((y.length : Int) != 0) := e
    subst e'
    exact PySem.P.truthy_str (by omega) ⟨H, I.tok _, q⟩
  | byt y =>
    obtain ⟨t, rfl⟩ := rx
    obtain ⟨hy, e'⟩ : y.size ≤ sizeLine ∧ k = ((y.size : Int) != 0) := e
    subst e'
    exact PySem.W.truthy_bytes (by omega) ⟨H, I.tok _, q⟩
  | ref p =>
    cases rx
    have e' : (∃ xs, SqL X.K H p xs ∧ k = !xs.isEmpty) ∨ (∃ xs, SqT X.K H p xs ∧ k = !xs.isEmpty) ∨ ∃ kvs, H p = some (.dK kvs) ∧ k = !kvs.isEmpty := e
    rcases e' with ⟨xs, hx, e'⟩ | ⟨xs, hx, e'⟩ | ⟨kvs, hx, e'⟩
    · subst e'
      obtain ⟨its, r, pl, hz⟩ := I.list hx
      have hlen := r.length
      exact wpAny_truthy_list pl.isList (by simp only [List.size_toArray]; omega) ⟨H, I.tok _, by rw [isEmpty_of r]; exact q⟩
    · subst e'
      obtain ⟨its, r, pl, hz⟩ := I.tuple hx
      have hlen := r.length
      exact truthy_tuple pl (by simp only [List.size_toArray]; omega) ⟨H, I.tok _, by rw [isEmpty_of r]; exact q⟩
    · subst e'
      obtain ⟨hz, hS, vs, r, m⟩ : kvs.length ≤ sizeLine ∧ (p == sysModules) = false ∧ ∃ vs, KV kvs vs ∧ s.heap.DictOf (mixKind X.prog X.w) p vs := I.hok p _ hx
      have hlen : kvs.length = vs.length := Paired.length r
      exact wpAny_truthy_dict hS m (by omega) ⟨H, I.tok _, by rw [isEmpty_kv r]; exact q⟩
  | _ => exact (show False from e).elim
/-! ### strs and bytes -/
/-! ### scalar builtins, by CallR -/
theorem vals1 {x : V} {us : List Value} (r : Vals [x] us) : ∃ u, us = [u] ∧ RelV x u := by
  cases r with
  | cons r1 r2 => cases r2; exact ⟨_, rfl, r1⟩
theorem vals2 {x y : V} {us : List Value} (r : Vals [x, y] us) : ∃ u w', us = [u, w'] ∧ RelV x u ∧ RelV y w' := by
  cases r with
  | cons r1 r2 =>
    cases r2 with
    | cons r3 r4 => cases r4; exact ⟨_, _, rfl, r1, r3⟩
theorem call_max2 (hc : X.calm = true) : CallR X (.builtin "max") (fun xs H Q => ∃ i j, xs = [.int i, .int j] ∧ Q (.int (if j > i then j else i)) H) := by
  intro pins s σ H xs us Q I r h
  obtain ⟨i, j, rfl, q⟩ := h
  obtain ⟨u, w', rfl, ⟨t, rfl⟩, ⟨t', rfl⟩⟩ := vals2 r
  refine max_two_ints (I.ok.hd hc) fun h' tk k => ⟨_, H, I.kept k, ?_, q⟩
  by_cases hj : j > i
  · rw [if_pos hj, if_pos hj]; exact ⟨_, rfl⟩
  · rw [if_neg hj, if_neg hj]; exact ⟨_, rfl⟩
theorem call_min2 (hc : X.calm = true) : CallR X (.builtin "min") (fun xs H Q => ∃ i j, xs = [.int i, .int j] ∧ Q (.int (if j < i then j else i)) H) := by
  intro pins s σ H xs us Q I r h
  obtain ⟨i, j, rfl, q⟩ := h
  obtain ⟨u, w', rfl, ⟨t, rfl⟩, ⟨t', rfl⟩⟩ := vals2 r
  refine min_two_ints (I.ok.hd hc) fun h' tk k => ⟨_, H, I.kept k, ?_, q⟩
  by_cases hj : j < i
  · rw [if_pos hj, if_pos hj]; exact ⟨_, rfl⟩
  · rw [if_neg hj, if_neg hj]; exact ⟨_, rfl⟩
end
end L2

namespace L2
open PySem PySem.Spec PyProof.Rows

/-! ### an instance, its attributes a map -/
structure ObjM (h : Heap) (x dx C : Addr) (mA : Str → Option Value) : Prop where
  obj : h.get? x = some (PySem.W.instObj C dx)
  ns : h.Ns1 dx mA
  ne : dx ≠ x

theorem lookIn_ns {h : Heap} {dx : Addr} {mA : Str → Option Value} (n : h.Ns1 dx mA) : ∃ od, h.get? dx = some od ∧ ∀ name, PySem.W.lookIn name od = some (mA name) := by
  obtain ⟨o, es, ep, ho, hd, hk, _, hm⟩ := n
  refine ⟨o, ho, fun name => ?_⟩
  have e := hm name
  unfold nsFind findBy at e
  rw [← Array.find?_toList] at e
  unfold PySem.W.lookIn
  rw [hd]
  dsimp only
  split
  · rename_i y q
    rw [q] at e
    exact congrArg some e
  · rename_i q
    rw [q] at e
    have a : es.toList.any (·.refKey) = false := by
      rw [List.any_eq_false]
      intro y hy
      obtain ⟨z, t, hkey⟩ := hk y (Array.mem_toList_iff.mp hy)
      simp [DictEntry.refKey, hkey]
    have a' : ¬ es.toList.any (·.refKey) = true := by rw [a]; exact Bool.false_ne_true
    rw [if_neg a']
    exact congrArg some e

theorem ObjM.look {h : Heap} {x dx C : Addr} {mA : Str → Option Value} (I : ObjM h x dx C mA) : ∃ od, PySem.W.InstAt h x (PySem.W.instObj C dx) C (some od) ∧ ∀ name, PySem.W.lookIn name od = some (mA name) :=
  let ⟨od, ho, hl⟩ := lookIn_ns I.ns
  ⟨od, ⟨I.obj, rfl, rfl, ho⟩, hl⟩

section
variable {prog : Program} {w : World} {A : Around} {E : Value → Shared → Prop} {s : Shared} {K : PySem.W.Frag} {x dx C f : Addr} {mA : Str → Option Value} {name : Str} {v : Value}

end

/-! ### the attributes as a list of pairs -/
theorem RelO.some_of {v : V} {o : Option Value} (r : RelO (some v) o) : ∃ u, o = some u ∧ RelV v u := by
  cases o with
  | none => exact (show False from r).elim
  | some u => exact ⟨u, rfl, r⟩
theorem handed_of {v : V} {u : Value} (r : RelV v u) : PySem.W.handedIn u = true := by
  cases v with
  | non => cases (show u = Value.none from r); rfl
  | bl b => cases (show u = Value.bool b from r); rfl
  | int i => obtain ⟨t, e⟩ := (show ∃ t, u = Value.int i t from r); cases e; rfl
  | str x => obtain ⟨t, e⟩ := (show ∃ t, u = Value.str x t from r); cases e; rfl
  | byt b => obtain ⟨t, e⟩ := (show ∃ t, u = Value.bytes b t from r); cases e; rfl
  | flt b => obtain ⟨t, e⟩ := (show ∃ t, u = Value.float b t from r); cases e; rfl
  | ref a => cases (show u = Value.ref a from r); rfl
  | ty n => cases (show u = Value.type n from r); rfl

section
variable {P : Program} {w : World} {H H' : Hp} {h h' : Heap} {a C dx : Addr} {fs fs' : List (Str × V)}
theorem ins_get (hok : HOk P w H h) (e : H a = some (.ins C dx fs)) : ∃ mA, ObjM h a dx C mA ∧ (∀ f, RelO (fs.lookup f) (mA f)) ∧ PySem.Within mA (fs.map (·.1)) ∧ fs.length ≤ 1000 ∧ H dx = some (.own a) := by
  obtain ⟨d, z, ne, ob, mA, n, r, q⟩ := (show ObjOk P w H h a (.ins C dx fs) from hok a _ e)
  exact ⟨mA, ⟨ob, n, ne⟩, r, q, z, d⟩
end

/-! ### what of the text a class must have -/
structure Cls (K : PySem.W.Frag) (C : Addr) : Prop where
  pg : PySem.W.plainGet K C Str.empty = true
  hd : PySem.W.hasDictIn K C = true
  po : PySem.W.plainOver K C = true
  sa : PySem.W.findIn K (.ref C) "__setattr__" = some (some (.builtin "object.__setattr__"))
theorem Cls.get {K : PySem.W.Frag} {C : Addr} (c : Cls K C) (f : Str) : PySem.W.plainGet K C f = true := c.pg
def NoAttr (K : PySem.W.Frag) (C : Addr) (f : Str) : Prop := PySem.W.findIn K (.ref C) f = some none
section
variable {X : Cx} {pins : List (Addr × Obj)} {σ : St} {H : Hp} {s : Shared} {a C dx : Addr} {fs : List (Str × V)} {f : Str} {v : V} {A : Around} {E : Value → Shared → Prop}

theorem attr_of {prog : Program} {w : World} {env : Env} {e : Expr} {f : Str} {pos : Pos} {s : Shared} {Q : Value → Shared → Prop} (hb : attributeBase e f env (eval e env) = eval e env)
    (h : wpAny (model prog w) A (eval e env) (fun o s₁ => wpAny (model prog w) A (getAttr o f true) Q E s₁) E s) : wpAny (model prog w) A (eval (.Attribute e f pos) env) Q E s :=
  Attribute_any_ h (by rw [arm_eval_Attribute, hb])
end

/-! ### readings and rules -/
section
variable {X : Cx} {o e value : Expr} {f : Str} {pos pos' tpos : Pos} {ta tv : TE}
end

/-! ### isinstance -/
section
variable {X : Cx} {pins : List (Addr × Obj)} {σ : St} {H : Hp} {s : Shared} {A : Around} {E : Value → Shared → Prop} {Q : Value → Shared → Prop} {c : Value} {b : Bool}
inductive TyOf (K : PySem.W.Frag) (H : Hp) : V → Value → Prop where
  | non : TyOf K H .non (.type "NoneType")
  | bl (x : Bool) : TyOf K H (.bl x) (.type "bool")
  | int (i : Int) : TyOf K H (.int i) (.type "int")
  | str (x : Str) : TyOf K H (.str x) (.type "str")
  | flt (x : UInt64) : TyOf K H (.flt x) (.type "float")
  | lst {a : Addr} {xs : List V} (e : H a = some (.lst xs)) : TyOf K H (.ref a) (.type "list")
  | frz {a : Addr} {o : Obj} {xs : List V} (e : H a = some (.frz o (.lst xs))) : TyOf K H (.ref a) (.type "list")
  | tup {a : Addr} {xs : List V} (e : H a = some (.tup xs)) : TyOf K H (.ref a) (.type "tuple")
  | dK {a : Addr} {kvs : List (Key × V)} (e : H a = some (.dK kvs)) : TyOf K H (.ref a) (.type "dict")
  | dT {a : Addr} {kvs : List (List Key × V)} (e : H a = some (.dT kvs)) : TyOf K H (.ref a) (.type "dict")
  | ins {a C dx : Addr} {fs : List (Str × V)} (e : H a = some (.ins C dx fs)) (cl : Cls K C) (ha : PySem.W.findIn K (.ref C) "__class__" = some (some (.builtin "object.__class__")))
      (hn : PySem.W.specialIn K (.builtin "object.__class__") "__get__" = some (some (.builtin "getset_descriptor.__get__"))) (htk : PySem.W.takesIn K (.builtin "object.__class__") = some true)
      (hm : PySem.W.mroIn K C (.type "object") = some true) : TyOf K H (.ref a) (.ref C)
theorem isinst_ok {x : V} {u t : Value} (I : Inv X pins σ H s) (rx : RelV x u) (ty : TyOf X.K H x t) (e : PySem.W.kitOne X.K t c = some b) (h : ∀ tk, Q (.bool b) { s with toks := tk }) :
    wpAny (model X.prog X.w) A (call (.builtin "isinstance") [u, c]) Q E s := by
  cases ty with
  | non => cases (show u = Value.none from rx); exact PySem.W.kia_one PySem.W.kitx_none I.kIn True.intro e (fun z => nomatch z) h
  | bl y => cases (show u = Value.bool y from rx); exact PySem.W.kia_one PySem.W.kitx_bool I.kIn True.intro e (fun z => nomatch z) h
  | int i => obtain ⟨t, q⟩ := (show ∃ t, u = Value.int i t from rx); cases q; exact PySem.W.kia_one PySem.W.kitx_int I.kIn True.intro e (fun z => nomatch z) h
  | str y => obtain ⟨t, q⟩ := (show ∃ t, u = Value.str y t from rx); cases q; exact PySem.W.kia_one PySem.W.kitx_str I.kIn True.intro e (fun z => nomatch z) h
  | flt y => obtain ⟨t, q⟩ := (show ∃ t, u = Value.float y t from rx); cases q; exact PySem.W.kia_one PySem.W.kitx_float I.kIn True.intro e (fun z => nomatch z) h
  | @lst a xs ea =>
    cases (show u = Value.ref a from rx)
    obtain ⟨_, _, n, _, h1⟩ := (show ObjOk X.prog X.w H s.heap a (.lst xs) from I.hok a _ ea)
    exact PySem.W.kia_one PySem.W.kitx_list I.kIn ⟨_, h1, rfl⟩ e (fun z => nomatch z) h
  | @frz a ob xs ea =>
    cases (show u = Value.ref a from rx)
    obtain ⟨_, _, _, n, _, h1⟩ := (show ObjOk X.prog X.w H s.heap a (.frz ob (.lst xs)) from I.hok a _ ea)
    exact PySem.W.kia_one PySem.W.kitx_list I.kIn ⟨_, h1, rfl⟩ e (fun z => nomatch z) h
  | @tup a xs ea =>
    cases (show u = Value.ref a from rx)
    obtain ⟨_, _, _, p⟩ := (show ObjOk X.prog X.w H s.heap a (.tup xs) from I.hok a _ ea)
    obtain ⟨o, h1, h2, _⟩ := p
    exact PySem.W.kia_one PySem.W.kitx_tuple I.kIn ⟨o, h1, h2⟩ e (fun z => nomatch z) h
  | @dK a kvs ea =>
    cases (show u = Value.ref a from rx)
    obtain ⟨_, _, vs, _, p⟩ := (show ObjOk X.prog X.w H s.heap a (.dK kvs) from I.hok a _ ea)
    obtain ⟨o, es, ep, h1, h2, _⟩ := p
    exact PySem.W.kia_one PySem.W.kitx_dict I.kIn ⟨o, h1, h2.1⟩ e (fun z => nomatch z) h
  | @dT a kvs ea =>
    cases (show u = Value.ref a from rx)
    obtain ⟨_, _, xs, _, o, es, ep, h1, h2, _⟩ := (show ObjOk X.prog X.w H s.heap a (.dT kvs) from I.hok a _ ea)
    exact PySem.W.kia_one PySem.W.kitx_dict I.kIn ⟨o, h1, h2.1⟩ e (fun z => nomatch z) h
  | @ins a C dx fs ea cl ha hn htk hm =>
    cases (show u = Value.ref a from rx)
    obtain ⟨mA, O, _⟩ := ins_get I.hok ea
    obtain ⟨od, J, _⟩ := O.look
    exact PySem.W.kia_one (PySem.W.kitx_own (cl.get _) cl.hd ha hn htk hm) I.kIn J e (fun z => nomatch z) h
end
end L2

namespace L2
open PySem PySem.Spec PyProof.Rows

/-! ### room -/
structure Room (k : Nat) (A : Around) : Prop where
  hd : A.handled = none
  dp : A.depth + 3 * k + 5 < recursionLimit
  un : A.units + 16 * k + 200 < cLine
theorem Room.mono {j k : Nat} {A : Around} (r : Room k A) (h : j ≤ k) : Room j A := ⟨r.hd, by have := r.dp; omega, by have := r.un; omega⟩
theorem Room.deeper {k : Nat} {A : Around} (r : Room (k + 1) A) (env : Env) : Room k (A.deeper env) :=
  ⟨r.hd, by have := r.dp; show A.depth + 1 + 3 * k + 5 < _; omega, by have := r.un; show A.units + 3 + 16 * k + 200 < _; omega⟩
theorem make_depth {A : Around} {C : Addr} {us : List Value} {kw : List (Str × Value)} : (A.under (.builtin "type.__call__" ⟨.ref C :: us, kw⟩)).depth = A.depth + 1 := by
  first | rfl | simp [Around.under, Code.weight, Code.isCreation, Code.isGuard, Code.isCaller, Code.frames, Code.isFrame, guardIds]
theorem make_units {A : Around} {C : Addr} {us : List Value} {kw : List (Str × Value)} : (A.under (.builtin "type.__call__" ⟨.ref C :: us, kw⟩)).units = A.units + 1 := by
  first | rfl | simp [Around.under, Code.cUnits, Code.frames, Code.isFrame]
theorem Room.make {k : Nat} {A : Around} (r : Room (k + 1) A) (C : Addr) (us : List Value) (kw : List (Str × Value)) : Room k (A.under (.builtin "type.__call__" ⟨.ref C :: us, kw⟩)) :=
  ⟨r.hd, by have := r.dp; rw [make_depth]; omega, by have := r.un; rw [make_units]; omega⟩
theorem Room.depth {k : Nat} {A : Around} (r : Room k A) : A.depth < recursionLimit := by have := r.dp; omega
theorem Room.units {k : Nat} {A : Around} (r : Room k A) : A.units + 64 < cLine := by have := r.un; omega
/-! ### argument lists and displays -/
def tNil : TA := fun _ H Q => Q [] H
def tCons (ta : TE) (tr : TA) : TA := fun σ H Q => ta σ H fun x H1 => tr σ H1 fun xs H2 => Q (x :: xs) H2
section
variable {X : Cx} {e : Expr} {es : List Expr} {te : TE} {t : TA} {pos : Pos}
theorem pa_nil : PA X [] tNil := fun _ _ _ _ H Q I h => Calls.spliced_nil ⟨[], H, I, .nil, h⟩
theorem pa_cons (ha : PE X e te) (hr : PA X es t) (hs : starEach (e :: es) X.env = (false, eval e X.env) :: starEach es X.env := by rfl) : PA X (e :: es) (tCons te t) := by
  intro pos pins s σ H Q I h
  rw [hs]
  show wpAny _ _ (spliced ((false, eval e X.env) :: backTo pos (starEach es X.env))) _ _ s
  refine Calls.spliced_cons (thn (ha pins s σ H _ I h) fun u s1 ⟨x, H1, I1, r1, q1⟩ => ?_)
  exact thn (hr pos pins s1 σ H1 _ I1 q1) fun us s2 ⟨xs, H2, I2, r2, q2⟩ => ⟨x :: xs, H2, I2, .cons r1 r2, q2⟩

def tTup (t : TA) : TE := fun σ H Q => t σ H fun xs H1 => xs.length ≤ sizeLine ∧ ∀ p, H1 p = none → Q (.ref p) (upd H1 p (.tup xs))
def tLst (t : TA) : TE := fun σ H Q => t σ H fun xs H1 => xs.length ≤ sizeLine ∧ ∀ p, H1 p = none → Q (.ref p) (upd H1 p (.lst xs))
theorem pe_tup {x1} (h : PA X es t) : PE X (.Tuple es x1 pos) (tTup t) := by
  intro pins s σ H Q I hq
  refine wpAny_Tuple_spliced (thn (h pos pins s σ H _ I hq) fun us s1 ⟨xs, H1, I1, r, z, q⟩ => ⟨by rw [← r.length]; exact z, ?_⟩)
  have hf : H1 s1.heap.objs.size = none := I1.hok.fresh (Nat.le_refl _)
  refine ⟨.ref s1.heap.objs.size, upd H1 s1.heap.objs.size (.tup xs), I1.laid (t' := s1.toks) (fun b u e => Heap.get?_push_of_some _ e) (Nat.le_refl _) ?_, rfl, q _ hf⟩
  exact ⟨z, us, r, ⟨_, Heap.get?_push_size _ rfl, rfl, _, rfl⟩⟩
theorem pe_lst (h : PA X es t) : PE X (.List es pos) (tLst t) := by
  intro pins s σ H Q I hq
  refine wpAny_List_spliced (thn (h pos pins s σ H _ I hq) fun us s1 ⟨xs, H1, I1, r, z, q⟩ => ⟨by rw [← r.length]; exact z, ?_⟩)
  have hf : H1 s1.heap.objs.size = none := I1.hok.fresh (Nat.le_refl _)
  refine ⟨.ref s1.heap.objs.size, upd H1 s1.heap.objs.size (.lst xs), I1.laid (t' := s1.toks) (fun b u e => Heap.get?_push_of_some _ e) (Nat.le_refl _) ?_, rfl, q _ hf⟩
  exact ⟨z, us, 0, r, Heap.get?_push_size _ rfl⟩
end

/-! ### what a def promises -/
abbrev Sp := List V → Hp → VK → XK → Prop
abbrev CXT := List Env → Hp → Shared → XK → Value → Shared → Prop

structure Env0 (P : Program) (w : World) (K : PySem.W.Frag) (mg : Str → Option Value) (base : Heap) (A : Around) (outer : List Env) (s : Shared) (H : Hp) : Prop where
  frames : A.frames = some outer
  mod : Mod K mg base
  bs : ∀ b o, base.get? b = some o → s.heap.get? b = some o ∧ H b = none
  bsz : base.objs.size ≤ s.heap.objs.size
  funs : s.heap.FunFrames base outer
  frf : ∀ b ∈ frs outer, H b = none
  hok : HOk P w H s.heap
  bare : AllBare s.gens
def CE (outer : List Env) (P : Program) (w : World) (H : Hp) (s : Shared) (Q : VK) (u : Value) (s' : Shared) : Prop :=
  ∃ v H', s'.os = s.os ∧ AllBare s'.gens ∧ Un (frs outer) [] H H' s.heap s'.heap ∧ HOk P w H' s'.heap ∧ RelV v u ∧ Q v H'
def CR (CX : CXT) (outer : List Env) (P : Program) (w : World) (H : Hp) (s : Shared) (Q : VK) (E : XK) (r : Result) (s' : Shared) : Prop :=
  match r with
  | .ok (.ret u) => CE outer P w H s Q u s'
  | .ok _ => False
  | .error e => CX outer H s E e s'
structure FnOk (P : Program) (w : World) (K : PySem.W.Frag) (mg : Str → Option Value) (base : Heap) (CX : CXT) (k : Nat) (f : Addr) (fd : FuncData) (ps : List Str) (sp : Sp) : Prop where
  len : ∀ vs H Q E, sp vs H Q E → vs.length = ps.length
  run : ∀ (A : Around) (outer : List Env) (s : Shared) (H : Hp) (args : Args) (us : List Value) (vs : List V) (Q : VK) (E : XK), Room k A → Env0 P w K mg base A outer s H → BindsTo s fd args (ps.zip us) → Vals vs us → sp vs H Q E →
    codeAny (model P w) A (.call (.ref f) args) (CR CX outer P w H s Q E) s
theorem FnOk.mono {P : Program} {w : World} {K : PySem.W.Frag} {mg : Str → Option Value} {base : Heap} {CX : CXT} {j k : Nat} {f : Addr} {fd : FuncData} {ps : List Str} {sp : Sp} (F : FnOk P w K mg base CX j f fd ps sp) (h : j ≤ k) :
    FnOk P w K mg base CX k f fd ps sp := ⟨F.len, fun A outer s H args us vs Q E hr => F.run A outer s H args us vs Q E (hr.mono h)⟩
theorem Env0.make {P : Program} {w : World} {K : PySem.W.Frag} {mg : Str → Option Value} {base : Heap} {A : Around} {outer : List Env} {s : Shared} {H : Hp} (e : Env0 P w K mg base A outer s H) (C : Addr) (us : List Value) (kw : List (Str × Value)) :
    Env0 P w K mg base (A.under (.builtin "type.__call__" ⟨.ref C :: us, kw⟩)) outer s H := ⟨by first | exact e.frames | (simpa [Around.under, Code.envs, Code.isFrame, pushEnvs] using e.frames), e.mod, e.bs, e.bsz, e.funs, e.frf, e.hok, e.bare⟩
section
variable {X : Cx} {pins : List (Addr × Obj)} {σ : St} {H : Hp} {s s' : Shared}
theorem Inv.env0 (I : Inv X pins σ H s) : Env0 X.prog X.w X.K X.mg X.base X.A X.stack s H :=
  ⟨I.ok.frames, I.ok.mod, I.bs, Nat.le_trans I.ok.bsz I.sz, I.stack, I.stkFree, I.hok, I.bare⟩
theorem Inv.after {Q : VK} {u : Value} (I : Inv X pins σ H s) (h : CE X.stack X.prog X.w H s Q u s') : EP X pins σ Q u s' := by
  obtain ⟨v, H', os, bare, un, hok, r, q⟩ := h
  obtain ⟨hh, g, d, t, os'⟩ := s'
  obtain rfl : os' = s.os := os
  exact ⟨v, H', I.call (h' := hh) (g' := g) (d' := d) (t' := t) (ch := []) un hok bare (fun b z => absurd z (by simp)), r, q⟩
end

/-! ### calls -/
def tCall (sp : Sp) (dvs : List V) (E : XK) (t : TA) : TE := fun σ H Q => t σ H fun vs H1 => sp (vs ++ dvs) H1 Q E
def Binds (K : PySem.W.Frag) (fd : FuncData) (ps : List Str) (ds : List Value) : Prop :=
  ∀ (s : Shared) (us : List Value), K.In s.heap → (us ++ ds).length = ps.length → BindsTo s fd ⟨us, []⟩ (ps.zip (us ++ ds))
theorem Binds.all {K : PySem.W.Frag} {fd : FuncData} {ps : List Str} (h : ∀ us : List Value, us.length = ps.length → bindArgs fd ⟨us, []⟩ = pure (ps.zip us)) : Binds K fd ps [] := fun s us _ hl => by
  rw [List.append_nil] at hl ⊢
  exact .of_eq (h us hl)

def Passes (CX : CXT) (X : Cx) (E : XK) : Prop := ∀ (pins : List (Addr × Obj)) (σ : St) (H : Hp) (s : Shared) (e : Value) (s' : Shared), Inv X pins σ H s → CX X.stack H s E e s' → X.xe e s'

section
variable {X : Cx} {CX : CXT} {k : Nat} {f C : Addr} {fd : FuncData} {ps : List Str} {sp : Sp} {dvs : List V} {ds : List Value} {E : XK} {x m : Str} {p pos apos : Pos} {e o : Expr} {es : List Expr} {ta : TE} {t : TA}

theorem run_fn {pins : List (Addr × Obj)} {σ : St} {H : Hp} {s : Shared} {Q : VK} {us : List Value} {vs : List V} (F : FnOk X.prog X.w X.K X.mg X.base CX k f fd ps sp) (hr : Room k X.A) (hb : Binds X.K fd ps ds) (hd : Vals dvs ds) (hx : Passes CX X E)
    (I : Inv X pins σ H s) (r : Vals vs us) (h : sp (vs ++ dvs) H Q E) : wpAny (model X.prog X.w) X.A (call (.ref f) us) (EP X pins σ Q) X.xe s := by
  have r2 : Vals (vs ++ dvs) (us ++ ds) := r.append hd
  have hl : (us ++ ds).length = ps.length := by rw [← r2.length]; exact F.len _ _ _ _ h
  refine wpAny_call (codeAny_mono (F.run X.A X.stack s H ⟨us, []⟩ (us ++ ds) (vs ++ dvs) Q E hr I.env0 (hb s us I.kIn hl) r2 h) fun r s' hq => ?_)
  cases r with
  | error e => exact hx pins σ H s e s' I hq
  | ok fl =>
    cases fl with
    | ret u => exact I.after hq
    | next => exact False.elim hq
    | brk => exact False.elim hq
    | cont => exact False.elim hq

theorem pe_call (F : FnOk X.prog X.w X.K X.mg X.base CX k f fd ps sp) (hr : Room k X.A) (hg : Gl X x) (hm : X.mg x = some (.ref f)) (hk : PySem.W.keepIn X.K (.ref f) = true) (hb : Binds X.K fd ps ds) (hd : Vals dvs ds) (hx : Passes CX X E)
    (ha : PA X (e :: es) t) (hdb : (x == ("__debug__" : Str)) = false := by decide) (he : starEach (e :: es) X.env = (false, eval e X.env) :: starEach es X.env := by rfl) (hpl : (backTo pos (starEach es X.env)).any (·.1) = false := by rfl) :
    PE X (.Call (.Name x p) (e :: es) [] pos) (tCall sp dvs E t) := by
  intro pins s σ H Q I h
  refine wpAny_Call_Name_kw (ld_glob I hg hm ?_ hdb)
  refine PySem.W.callWith_K (h₀ := X.base) I.ok.mod.kin hk (thn (ha pos pins s σ H _ I h) fun us s1 ⟨vs, H1, I1, r, q⟩ => ⟨I1.kIn, ?_⟩) he hpl
  exact run_fn F hr hb hd hx I1 r q
end

/-! ### keywords -/
section
variable {X : Cx} {CX : CXT} {k : Nat} {f C : Addr} {fd : FuncData} {ps ks : List Str} {sp : Sp} {E : XK} {x m : Str} {p pos apos kpos : Pos} {e o : Expr} {es : List Expr} {kws : List Keyword} {te ta : TE} {t tk : TA} {nm : Option Str}
variable {g : List Value → List Value → List Value} {gV : List V → List V → List V}
end

/-! ### a def's body keeps its promise -/
structure FnScope (N P : List Str) (sc : Scope) : Prop where
  kind : sc.kind = .function
  co : sc.isCoroutine = false
  gen : sc.isGenerator = false
  nd : N.Nodup
  pre : N.take P.length = P
  par : ∀ x ∈ P, sc.names.lookup x = some .local ∨ sc.names.lookup x = some .cell
  nofree : ∀ y ∈ sc.names, y.2 ≠ .free

theorem bindL_out {kindOf : Str → Option NameKind} {x : Str} : ∀ {binds : List (Str × Value)} {m : Str → Option Value}, (∀ v, (x, v) ∉ binds) → bindL kindOf binds m x = m x
  | [], _, _ => rfl
  | (n, v) :: r, m, h => by
    unfold bindL
    rw [bindL_out fun w hw => h w (List.mem_cons_of_mem _ hw)]
    split
    · have : x ≠ n := by rintro rfl; exact h v List.mem_cons_self
      simp [this]
    · rfl
theorem bindC_out {kindOf : Str → Option NameKind} {x : Str} : ∀ {binds : List (Str × Value)} {m : Str → Option Value}, (∀ v, (x, v) ∉ binds) → bindC kindOf binds m x = m x
  | [], _, _ => rfl
  | (n, v) :: r, m, h => by
    unfold bindC
    rw [bindC_out fun w hw => h w (List.mem_cons_of_mem _ hw)]
    split
    · rfl
    · have : x ≠ n := by rintro rfl; exact h v List.mem_cons_self
      simp [this]
theorem bindL_get {kindOf : Str → Option NameKind} {x : Str} {v : Value} : ∀ {P : List Str} {vs : List Value} {i : Nat} {m : Str → Option Value}, P.Nodup → P[i]? = some x → vs[i]? = some v → kindOf x = some .local →
    bindL kindOf (P.zip vs) m x = some v
  | [], _, _, _, _, h, _, _ => by simp at h
  | _ :: _, [], _, _, _, _, h, _ => by simp at h
  | p :: P, w :: vs, 0, m, nd, h1, h2, hk => by
    simp at h1 h2; subst h1; subst h2
    show bindL kindOf ((p, w) :: P.zip vs) m p = _
    unfold bindL
    rw [bindL_out fun v hv => (List.nodup_cons.mp nd).1 (List.of_mem_zip hv).1, if_pos hk]
    simp
  | p :: P, w :: vs, i + 1, m, nd, h1, h2, hk => by
    show bindL kindOf ((p, w) :: P.zip vs) m x = _
    unfold bindL
    exact bindL_get (i := i) (List.nodup_cons.mp nd).2 (by simpa using h1) (by simpa using h2) hk
theorem bindC_get {kindOf : Str → Option NameKind} {x : Str} {v : Value} : ∀ {P : List Str} {vs : List Value} {i : Nat} {m : Str → Option Value}, P.Nodup → P[i]? = some x → vs[i]? = some v → kindOf x ≠ some .local →
    bindC kindOf (P.zip vs) m x = some v
  | [], _, _, _, _, h, _, _ => by simp at h
  | _ :: _, [], _, _, _, _, h, _ => by simp at h
  | p :: P, w :: vs, 0, m, nd, h1, h2, hk => by
    simp at h1 h2; subst h1; subst h2
    show bindC kindOf ((p, w) :: P.zip vs) m p = _
    unfold bindC
    rw [bindC_out fun v hv => (List.nodup_cons.mp nd).1 (List.of_mem_zip hv).1, if_neg hk]
    simp
  | p :: P, w :: vs, i + 1, m, nd, h1, h2, hk => by
    show bindC kindOf ((p, w) :: P.zip vs) m x = _
    unfold bindC
    exact bindC_get (i := i) (List.nodup_cons.mp nd).2 (by simpa using h1) (by simpa using h2) hk

def start (N : List Str) (vs : List V) : St := vs.map some ++ List.replicate (N.length - vs.length) none

def cxOf (CX : CXT) (P : Program) (w : World) (K : PySem.W.Frag) (mg : Str → Option Value) (base : Heap) (N : List Str) (qual : Str) (scope : Scope) (f : Addr) (cd : Value) (A : Around) (outer : List Env) (s : Shared) (H : Hp) (E : XK) : Cx where
  prog := P
  w := w
  K := K
  mg := mg
  base := base
  A := A.deeper (envOfC qual scope s.heap.objs.size f cd)
  N := N
  s₀ := s
  H₀ := H
  env := envOfC qual scope s.heap.objs.size f cd
  outer := outer
  stack := envOfC qual scope s.heap.objs.size f cd :: outer
  ex := []
  calm := true
  fn := fun _ => true
  pn := []
  xe := fun e s' => wpAny (model P w) (A.deeper (envOfC qual scope s.heap.objs.size f cd)) (leaving (envOfC qual scope s.heap.objs.size f cd) e) (fun _ s'' => CX outer H s E e s'') (fun e' s'' => CX outer H s E e' s'') s'

theorem cell_has {sc : Scope} {n : Nat} {x : Str} (h : sc.names.lookup x = some .cell) : ∃ c, (cellsFrom n sc.names []).lookup x = some c := by
  have q := PySem.W.cellsFrom_some sc.names n [] (.inl h)
  exact Option.isSome_iff_exists.mp q

theorem inv_start {CX : CXT} {P : Program} {w : World} {K : PySem.W.Frag} {mg : Str → Option Value} {base : Heap} {N ps : List Str} {qual : Str} {scope : Scope} {f : Addr} {cd : Value} {A : Around} {outer : List Env} {s s1 : Shared} {H : Hp} {E : XK} {us : List Value} {vs : List V}
    (S : FnScope N ps scope) (hd : A.handled = none) (e0 : Env0 P w K mg base A outer s H) (hl : vs.length = ps.length) (r : Vals vs us)
    (x : InCallC s s.heap.objs.size (bindL (envOfC qual scope s.heap.objs.size f cd).kindOf (ps.zip us) fun _ => none) (cellsFrom (s.heap.objs.size + 1) scope.names []) (bindC (envOfC qual scope s.heap.objs.size f cd).kindOf (ps.zip us) fun _ => none) s1) :
    Inv (cxOf CX P w K mg base N qual scope f cd A outer s H E) [] (start N vs) H s1 := by
  have hpl : ps.length ≤ N.length := by have := congrArg List.length S.pre; rw [List.length_take] at this; omega
  obtain ⟨h1, tk, rfl, hk⟩ := x.done
  have noA : ∀ b : Addr, b ∉ (cxOf CX P w K mg base N qual scope f cd A outer s H E).ex := fun b z => absurd (show b ∈ ([] : List Addr) from z) (by simp)
  refine ⟨⟨e0.mod, S.kind, rfl, rfl, Nat.le_refl _, fun y z c h1 h2 => ?_, fun y hy => ?_, fun y c _ h => ?_, fun _ => hd, Around.frames_deeper e0.frames, .inr ⟨rfl, rfl⟩, fun b z => absurd z (noA b), e0.bs, e0.bsz, fun b _ _ => noA b, fun b z => absurd z (noA b), e0.funs, e0.frf⟩,
    rfl, e0.bare, Un.kept hk, ⟨_, x.toInCall.ns, fun i y v h1 h2 h3 => ?_⟩, fun y c h => ⟨_, x.cell y c h⟩, e0.hok.fresh (Nat.le_refl _), fun y c h => ?_, fun p hp => absurd (show p ∈ ([] : List (Addr × Obj)) from hp) (by simp), e0.hok.kept hk, ?_⟩
  · exact name_of_addr x.apart (PySem.mem_of_lookup h1) (PySem.mem_of_lookup h2)
  · have hy : scope.names.lookup y = some .cell ∨ scope.names.lookup y = some .free := hy
    rcases hy with hy | hy
    · exact cell_has hy
    · exact absurd rfl (S.nofree _ (PySem.mem_of_lookup hy))
  · exact Nat.le_of_lt (x.above y c (PySem.mem_of_lookup h))
  · have hi : i < vs.length := by
      unfold start at h2
      by_cases hi : i < vs.length
      · exact hi
      · rw [List.getElem?_append_right (by simpa using hi)] at h2
        rw [List.getElem?_replicate] at h2
        split at h2 <;> cases h2
    have ha : vs[i]? = some v := by
      unfold start at h2
      rw [List.getElem?_append_left (by simpa using hi), List.getElem?_map] at h2
      cases e : vs[i]? with
      | none => rw [e] at h2; cases h2
      | some a => rw [e] at h2; cases h2; rfl
    obtain ⟨u, hu, rv⟩ := r.get ha
    have hp : ps[i]? = some y := by
      rw [← S.pre, List.getElem?_take_of_lt (by omega)]; exact h1
    have ndP : ps.Nodup := by rw [← S.pre]; exact S.nd.sublist (List.take_sublist _ _)
    refine ⟨u, rv, ?_⟩
    rcases S.par y (List.mem_of_getElem? hp) with k | k
    · exact .inl ⟨k, bindL_get ndP hp hu k⟩
    · obtain ⟨c, e⟩ := cell_has (n := s.heap.objs.size + 1) k
      refine .inr ⟨.inl k, c, e, ?_⟩
      have q := x.cell y c e
      rw [bindC_get ndP hp hu (by show scope.names.lookup y ≠ _; rw [k]; decide)] at q
      exact q
  · exact e0.hok.fresh (Nat.le_of_lt (x.above y c (PySem.mem_of_lookup h)))
  · unfold start
    show _ = N.length
    rw [List.length_append, List.length_map, List.length_replicate]
    omega

theorem fn_of {CX : CXT} {P : Program} {w : World} {K : PySem.W.Frag} {mg : Str → Option Value} {base : Heap} {k : Nat} {f : Addr} {name qual : Str} {params : Arguments} {body : List Stmt} {scope : Scope} {dV kV doc pm cdv ct oc : Value} {an od : Option Addr}
    {osl : Array (Option Value)} {N ps : List Str} {sp : Sp} (lk : K.lookup f = some ⟨oc, od, .func (PySem.W.fnOf name qual params body scope dV kV doc pm an cdv ct), osl⟩) (hcd : PySem.W.codeIn K cdv qual = true) (S : FnScope N ps scope)
    (len : ∀ vs H Q E, sp vs H Q E → vs.length = ps.length)
    (hbody : ∀ (A : Around) (outer : List Env) (s : Shared) (H : Hp) (vs : List V) (Q : VK) (E : XK), Room k (A.deeper (envOfC qual scope s.heap.objs.size f cdv)) → sp vs H Q E →
      ∃ t, PSs (cxOf CX P w K mg base N qual scope f cdv A outer s H E) body t ∧ t { nx := fun _ H' => Q .non H', rt := Q } (start N vs) H) :
    FnOk P w K mg base CX (k + 1) f (PySem.W.fnOf name qual params body scope dV kV doc pm an cdv ct) ps sp := by
  refine ⟨len, fun A outer s H args us vs Q E hr e0 hb r hsp => ?_⟩
  have hl := len _ _ _ _ hsp
  have KX : K.In s.heap := e0.mod.kin.keeps fun b o e => (e0.bs b o e).1
  have lim : s.heap.NoLimit := e0.mod.nolimit.keeps fun b o e => (e0.bs b o e).1
  have hkind : ∀ y ∈ ps.zip us, scope.names.lookup y.1 = some .local ∨ (scope.names.lookup y.1 = some .cell ∧ ((cellsFrom (s.heap.objs.size + 1) scope.names []).lookup y.1).isSome = true) := fun ⟨n, v⟩ hy => by
    rcases S.par n (List.of_mem_zip hy).1 with q | q
    · exact .inl q
    · exact .inr ⟨q, PySem.W.cellsFrom_some _ _ _ (.inl q)⟩
  refine codeAny_call_function hr.depth (KX _ _ lk) rfl S.co S.gen rfl (PySem.W.codeRec_of KX hcd) (hb _ _ _ _ ?_)
  refine wpAny_newFunctionEnv_cells S.kind hkind fun env he s1 x => ?_
  subst he
  refine ⟨lim.keeps x.toInCall.keep, codeAny_func ?_⟩
  obtain ⟨t, ht, hq⟩ := hbody A outer s H vs Q E (hr.deeper _) hsp
  have I : Inv (cxOf CX P w K mg base N qual scope f cdv A outer s H E) [] (start N vs) H s1 := inv_start S hr.hd e0 hl r x
  refine wpAny_mono (ht [] s1 (start N vs) H _ I hq) (fun fl s' hs => ?_) fun e s' hs => hs
  have fin : ∀ {σ' : St} {H' : Hp} {v : V} {u : Value}, Inv (cxOf CX P w K mg base N qual scope f cdv A outer s H E) [] σ' H' s' → RelV v u → Q v H' → CE outer P w H s Q u s' :=
    fun {σ' H' v u} J rv q => ⟨v, H', J.os, J.bare, J.base, J.hok, rv, q⟩
  cases fl with
  | ret u =>
    obtain ⟨v, σ', H', J, rv, q⟩ := hs
    exact fin J rv q
  | next =>
    obtain ⟨σ', H', J, q⟩ := hs
    exact fin (v := V.non) (u := Value.none) J rfl q
  | brk =>
    obtain ⟨_, _, _, q⟩ := hs
    exact False.elim q
  | cont =>
    obtain ⟨_, _, _, q⟩ := hs
    exact False.elim q
end L2

namespace L2
open PySem PySem.Spec PyProof.Rows
section
variable {X : Cx} {x : Str} {p pos : Pos} {e : Expr} {es : List Expr} {t : TA} {id T : String} {r : List V → Hp → VK → Prop}

def tCB (r : List V → Hp → VK → Prop) (t : TA) : TE := fun σ H Q => t σ H fun vs H1 => r vs H1 Q
theorem pe_callB (hc : CallR X (.builtin id) r) (hg : Gl X x) (hm : X.mg x = none) (hv : bootBuiltins x = some (.builtin id)) (ha : PA X (e :: es) t) (hn : x ≠ "__name__" := by decide) (hdb : (x == ("__debug__" : Str)) = false := by decide)
    (he : starEach (e :: es) X.env = (false, eval e X.env) :: starEach es X.env := by rfl) (hpl : (backTo pos (starEach es X.env)).any (·.1) = false := by rfl) : PE X (.Call (.Name x p) (e :: es) [] pos) (tCB r t) := by
  intro pins s σ H Q I h
  refine wpAny_Call_Name_kw (ld_blt I hg hm hv ?_ hn hdb)
  exact PyProof.Rows.callWith_builtin1 (thn (ha pos pins s σ H _ I h) fun us s1 ⟨vs, H1, I1, r1, q1⟩ => hc pins s1 σ H1 vs us Q I1 r1 q1) he hpl
theorem pe_callTy (hc : CallR X (.type T) r) (hg : Gl X x) (hm : X.mg x = none) (hv : bootBuiltins x = some (.type T)) (ha : PA X (e :: es) t) (hn : x ≠ "__name__" := by decide) (hdb : (x == ("__debug__" : Str)) = false := by decide)
    (he : starEach (e :: es) X.env = (false, eval e X.env) :: starEach es X.env := by rfl) (hpl : (backTo pos (starEach es X.env)).any (·.1) = false := by rfl) : PE X (.Call (.Name x p) (e :: es) [] pos) (tCB r t) := by
  intro pins s σ H Q I h
  refine wpAny_Call_Name_kw (ld_blt I hg hm hv ?_ hn hdb)
  exact PyProof.Rows.callWith_type1 (thn (ha pos pins s σ H _ I h) fun us s1 ⟨vs, H1, I1, r1, q1⟩ => hc pins s1 σ H1 vs us Q I1 r1 q1) he hpl
end
end L2

namespace HT
open PySem PyProof.Rows

section
open PySem.SeqAt
open PySem.AutoSeq1 (wpAny_loadPart')
open PySem.MeetsSeq PySem.MeetsSeq2 PySem.MeetsSeq3

end

section
variable {prog : Program} {w : World} {A : Around} {E : Value → Shared → Prop} {s : Shared}

/-! ### t[a:b], not the whole -/
def sIx (n d : Nat) : Option Int → Nat
  | none => d
  | some v => if v < 0 then (v + (n : Int)).toNat else min v.toNat n
theorem sIx_nat (n d k : Nat) : sIx n d (some (k : Int)) = min k n := by
  show (if (k : Int) < 0 then ((k : Int) + (n : Int)).toNat else min (k : Int).toNat n) = min k n
  rw [if_neg (by omega), Int.toNat_natCast]
theorem sIx_le (n d : Nat) (hd : d ≤ n) (o : Option Int) : sIx n d o ≤ n := by
  cases o with
  | none => exact hd
  | some v =>
    show (if v < 0 then (v + (n : Int)).toNat else min v.toNat n) ≤ n
    by_cases hv : v < 0
    · rw [if_pos hv]; omega
    · rw [if_neg hv]; exact Nat.min_le_right _ _
theorem clip_eq (v : Int) (n d : Nat) : (if v < 0 then max (v + (n : Int)) 0 else min v (n : Int)) = ((sIx n d (some v) : Nat) : Int) := by
  show (if v < 0 then max (v + (n : Int)) 0 else min v (n : Int)) = (((if v < 0 then (v + (n : Int)).toNat else min v.toNat n) : Nat) : Int)
  by_cases hv : v < 0
  · simp only [if_pos hv]; omega
  · simp only [if_neg hv]; omega
theorem adjust_gen (lo hi : Option Int) (n : Nat) : Builtin.Slice.sliceAdjust lo hi 1 (n : Int) = (((sIx n 0 lo : Nat) : Int), ((sIx n n hi : Nat) : Int)) := by
  have h1 : ¬ ((1 : Int) < 0) := by omega
  unfold Builtin.Slice.sliceAdjust
  simp only [h1, if_false]
  refine Prod.ext ?_ ?_
  · cases lo with
    | none => rfl
    | some v => exact clip_eq v n 0
  · cases hi with
    | none => rfl
    | some v => exact clip_eq v n n
theorem places_gen (i j : Nat) : Builtin.Slice.slicePlaces (i : Int) (j : Int) 1 = j - i := by
  unfold Builtin.Slice.slicePlaces
  have h1 : (1 : Int) > 0 := by omega
  simp only [h1, if_true, Int.ediv_one]
  split <;> omega
theorem slicePart_ {v : Value} {o : Option Int} {Q : Option Int → Shared → Prop} (p : IsPart v o) (h : Q o s) : wpAny (model prog w) A (Builtin.Slice.slicePartIndex v) Q E s := by
  cases p with
  | none => exact slicePart_none h
  | int i t => exact slicePart_int h
theorem sliceApplied_gen {sl : Addr} {vl vu : Value} {lo hi : Option Int} {n : Nat} {Q : Int × Int × Nat → Shared → Prop} (hs : s.heap.IsSliceOf sl vl vu .none) (pl : IsPart vl lo) (pu : IsPart vu hi)
    (h : Q (((sIx n 0 lo : Nat) : Int), 1, sIx n n hi - sIx n 0 lo) s) : wpAny (model prog w) A (Builtin.Slice.sliceApplied (.ref sl) (pure (n : Int))) Q E s := by
  obtain ⟨os, hos, hcs, hds⟩ := id hs
  unfold Builtin.Slice.sliceApplied Builtin.Slice.sliceFields
  refine wpAny_bind (wpAny_bind (wpAny_field hos hds (x := vl) rfl (wpAny_bind (wpAny_field hos hds (x := vu) rfl (wpAny_bind (wpAny_field hos hds (x := .none) rfl (wpAny_pure ?_)))))))
  refine wpAny_bind (slicePart_none ?_)
  show wpAny _ _ (if ((1 : Int) == 0) = true then _ else _) _ _ s
  rw [if_neg (by decide)]
  refine wpAny_bind (slicePart_ pl (wpAny_bind (slicePart_ pu (wpAny_bind (wpAny_pure ?_)))))
  show wpAny _ _ (match Builtin.Slice.sliceAdjust lo hi 1 (n : Int) with | (lo, hi) => pure (lo, (1 : Int), Builtin.Slice.slicePlaces lo hi 1)) _ _ s
  rw [adjust_gen lo hi n]
  show wpAny _ _ (pure (((sIx n 0 lo : Nat) : Int), (1 : Int), Builtin.Slice.slicePlaces ((sIx n 0 lo : Nat) : Int) ((sIx n n hi : Nat) : Int) 1)) _ _ s
  rw [places_gen]
  exact wpAny_pure h
theorem pick_gen (xs : Array Value) (i k : Nat) : ((List.range k).filterMap fun (m : Nat) => xs[((i : Int) + (m : Int) * 1).toNat]?).toArray = ((xs.toList.drop i).take k).toArray := by
  have e : (fun (m : Nat) => xs[((i : Int) + (m : Int) * 1).toNat]?) = fun m => xs[i + m]? := by
    funext m
    have : ((i : Int) + (m : Int) * 1).toNat = i + m := by omega
    rw [this]
  rw [e]
  have := pick_run xs i k
  rw [List.filterMap_map] at this
  have e2 : ((fun x => xs[x]?) ∘ fun x => i + x) = fun m => xs[i + m]? := rfl
  rw [e2] at this
  rw [this]

theorem getItem_tuple_cut {t sl : Addr} {items : Array Value} {vl vu : Value} {lo hi : Option Int} {Q : Value → Shared → Prop} (ht : IsTup s.heap t items) (hs : s.heap.IsSliceOf sl vl vu .none) (pl : IsPart vl lo) (pu : IsPart vu hi)
    (hw : ¬ (sIx items.size 0 lo = 0 ∧ sIx items.size items.size hi = items.size))
    (h : Q (.ref s.heap.objs.size) { s with heap := s.heap.push { cls := .type "tuple", data := .seq ((items.toList.drop (sIx items.size 0 lo)).take (sIx items.size items.size hi - sIx items.size 0 lo)).toArray } })
    (hsz : items.size ≤ sizeLine) : wpAny (model prog w) A (getItem (.ref t) (.ref sl)) Q E s := by
  have htake : sizeOk (.seq ((items.toList.drop (sIx items.size 0 lo)).take (sIx items.size items.size hi - sIx items.size 0 lo)).toArray) := by
    show ((items.toList.drop (sIx items.size 0 lo)).take (sIx items.size items.size hi - sIx items.size 0 lo)).toArray.size ≤ sizeLine
    rw [List.size_toArray, List.length_take, List.length_drop, Array.length_toList]
    omega
  have hj : sIx items.size items.size hi ≤ items.size := sIx_le _ _ (Nat.le_refl _) hi
  obtain ⟨os, hos, hcs, hds⟩ := id hs
  have hTs : s.TypeIs (.ref sl) "slice" := ⟨os, hos, hcs⟩
  unfold getItem
  try with_reducible refine wpAny_holding ?_
  first | refine wpAny_bind (wpAny_pure ?_) | skip
  refine wpAny_bind (wpAny_sequenceKey ht.typeIs (by decide) ?_)
  refine wpAny_bind (wpAny_callSpecial?_slot (name := Str.ofString "__getitem__") ht.typeIs PyProof.Rows.slot_tuple_getitem
    (wpAny_call_entry PyProof.Rows.slot_tuple_getitem ht.typeIs entry_tuple_getitem ?_ (args_tuple_getitem _ _)))
  show wpAny _ _ (Builtin.Tuple.tupleItemsOf (.ref t) >>= _) _ _ s
  refine wpAny_bind (tupleItemsOf_ ht ?_)
  refine wpAny_bind (wpAny_typeOf hTs ?_)
  rw [if_pos (by decide)]
  refine wpAny_bind (sliceApplied_gen hs pl pu ?_)
  have hno : ¬ ((((sIx items.size 0 lo : Nat) : Int) == 0 && (1 : Int) == 1 && (sIx items.size items.size hi - sIx items.size 0 lo) == items.size) = true) := by
    intro q
    rw [Bool.and_eq_true, Bool.and_eq_true] at q
    have q1 : ((sIx items.size 0 lo : Nat) : Int) = 0 := eq_of_beq q.1.1
    have q2 : sIx items.size items.size hi - sIx items.size 0 lo = items.size := eq_of_beq q.2
    exact hw ⟨by omega, by omega⟩
  show wpAny _ _ (if (((sIx items.size 0 lo : Nat) : Int) == 0 && (1 : Int) == 1 && (sIx items.size items.size hi - sIx items.size 0 lo) == items.size) = true then _ else _) _ _ s
  rw [if_neg hno, pick_gen]
  first
    | exact wpAny_bind (m := Builtin.Tuple.tupleExact _) (wpAny_newObj_type (wpAny_pure ⟨_, rfl, wpAny_pure h⟩) htake)
    | exact wpAny_bind (m := Builtin.Tuple.tupleExact _) (wpAny_newObj_type (wpAny_bind (wpAny_pure (wpAny_pure ⟨_, rfl, wpAny_pure h⟩))) htake)
    | exact wpAny_bind (wpAny_bind (m := Builtin.Tuple.tupleExact _) (wpAny_newObj_type (wpAny_pure (wpAny_pure ⟨_, rfl, wpAny_pure h⟩)) htake))
    | exact wpAny_bind (wpAny_bind (m := Builtin.Tuple.tupleExact _) (wpAny_newObj_type (wpAny_pure ⟨_, rfl, wpAny_pure h⟩) htake))
end
end HT

namespace L2
open PySem PySem.Spec PyProof.Rows

/-! ### the parts of a slice -/
abbrev TO := St → Hp → (Option Int → Hp → Prop) → Prop
def PO (X : Cx) (e : Option Expr) (t : TO) : Prop :=
  ∀ (pins : List (Addr × Obj)) (s : Shared) (σ : St) (H : Hp) (Q : Option Int → Hp → Prop), Inv X pins σ H s → t σ H Q →
    wpAny (model X.prog X.w) X.A (evalPart e X.env) (fun u s' => ∃ o H', Inv X pins σ H' s' ∧ IsPart u o ∧ Q o H') X.xe s
def tNoPart : TO := fun _ H Q => Q none H
def tPart (t : TE) : TO := fun σ H Q => t σ H fun x H1 => ∃ i, x = .int i ∧ Q (some i) H1

theorem intsAre_of {ns : List Int} : ∀ {us : List Value}, Vals (ns.map V.int) us → IntsAre us ns := by
  induction ns with
  | nil => intro us r; rw [List.map_nil] at r; cases r; exact .nil
  | cons n ns ih =>
    intro us r
    rw [List.map_cons] at r
    cases r with
    | cons r1 r2 =>
      obtain ⟨t, e⟩ := r1
      subst e
      exact .cons n t (ih r2)

section
variable {X : Cx} {e : Expr} {te : TE} {lo hi : Option Expr} {tl th : TO} {pos p2 : Pos}

theorem po_none : PO X none tNoPart := by
  intro pins s σ H Q I h
  rw [evalPart_none]
  exact wpAny_pure ⟨none, H, I, .none, h⟩
theorem po_some (h : PE X e te) : PO X (some e) (tPart te) := by
  intro pins s σ H Q I hw
  rw [evalPart_some]
  refine thn (h pins s σ H _ I hw) fun u s1 ⟨x, H1, I1, r1, q1⟩ => ?_
  obtain ⟨i, rfl, q⟩ := q1
  obtain ⟨t, rfl⟩ := r1
  exact ⟨some i, H1, I1, .int i t, q⟩

def SlR (X : Cx) (r : V → Option Int → Option Int → Hp → VK → Prop) : Prop :=
  ∀ (pins : List (Addr × Obj)) (s : Shared) (σ : St) (H : Hp) (x : V) (v vl vu : Value) (lo hi : Option Int) (sl : Addr) (Q : VK), Inv X pins σ H s → RelV x v → s.heap.IsSliceOf sl vl vu .none → IsPart vl lo → IsPart vu hi → r x lo hi H Q →
    ∃ T id, typeLookup (.type T) "__getitem__" = pure (some (.builtin id)) ∧ s.TypeIs v T ∧ wpAny (model X.prog X.w) X.A (getItem v (.ref sl)) (EP X pins σ Q) X.xe s
def tSl (r : V → Option Int → Option Int → Hp → VK → Prop) (te : TE) (tl th : TO) : TE := fun σ H Q => te σ H fun x H1 => tl σ H1 fun l H2 => th σ H2 fun u H3 => r x l u H3 Q
theorem pe_slice {r : V → Option Int → Option Int → Hp → VK → Prop} (hr : SlR X r) (he : PE X e te) (hl : PO X lo tl) (hu : PO X hi th) : PE X (.Subscript e (.Slice lo hi none p2) pos) (tSl r te tl th) := by
  intro pins s σ H Q I h
  refine Subscript_ (thn (he pins s σ H _ I h) fun v s1 ⟨x, H1, I1, r1, q1⟩ => ?_)
  refine wpAny_Slice (thn (hl pins s1 σ H1 _ I1 q1) fun vl s2 ⟨l, H2, I2, pl, q2⟩ => thn (hu pins s2 σ H2 _ I2 q2) fun vu s3 ⟨u, H3, I3, pu, q3⟩ => ?_)
  rw [evalPart_none]
  refine wpAny_pure ?_
  have I4 : Inv X pins σ H3 { s3 with heap := s3.heap.push { cls := .type "slice", data := .fields #[vl, vu, .none] } } := I3.kept (t' := s3.toks) fun b ob q => Heap.get?_push_of_some _ q
  obtain ⟨T, id, hT, ht, hg⟩ := hr pins { s3 with heap := s3.heap.push { cls := .type "slice", data := .fields #[vl, vu, .none] } } σ H3 x v vl vu l u s3.heap.objs.size Q I4 r1 (Heap.IsSliceOf.new ..) pl pu q3
  show wpAny (model X.prog X.w) X.A (subscriptTail e (.Slice lo hi none p2) v (.ref s3.heap.objs.size)) (EP X pins σ Q) X.xe { s3 with heap := s3.heap.push { cls := .type "slice", data := .fields #[vl, vu, .none] } }
  exact tail_any (ops := [.ref s3.heap.objs.size, v]) ht hT hg (by with_unfolding_all rfl)

def cutV (xs : List V) (lo hi : Option Int) : List V := (xs.drop (HT.sIx xs.length 0 lo)).take (HT.sIx xs.length xs.length hi - HT.sIx xs.length 0 lo)
theorem cutV_length (xs : List V) (lo hi : Option Int) : (cutV xs lo hi).length ≤ xs.length := by
  unfold cutV
  rw [List.length_take, List.length_drop]
  omega
def rSlT (K : PySem.W.Frag) : V → Option Int → Option Int → Hp → VK → Prop := fun x lo hi H Q => ∃ a xs, x = .ref a ∧ SqT K H a xs ∧
  ¬ (HT.sIx xs.length 0 lo = 0 ∧ HT.sIx xs.length xs.length hi = xs.length) ∧ ∀ p, H p = none → Q (.ref p) (upd H p (.tup (cutV xs lo hi)))
theorem sl_tup : SlR X (rSlT X.K) := by
  intro pins s σ H x v vl vu lo hi sl Q I rx hs pl pu h
  obtain ⟨a, xs, rfl, hx, hw, q⟩ := h
  cases rx
  obtain ⟨its, r, ht, hz⟩ := I.tuple hx
  have hlen : its.toArray.size = xs.length := by rw [List.size_toArray]; exact r.length.symm
  refine ⟨"tuple", _, PyProof.Rows.slot_tuple_getitem.lookup, ht.typeIs, ?_⟩
  refine HT.getItem_tuple_cut ht hs pl pu (by rw [hlen]; exact hw) ?_ (by rw [hlen]; exact hz)
  rw [hlen]
  refine ⟨.ref s.heap.objs.size, _, I.laid (t' := s.toks) (o := .tup (cutV xs lo hi)) (fun b ob q => Heap.get?_push_of_some _ q) (Nat.le_refl _) ?_, rfl, q _ (I.hok.fresh (Nat.le_refl _))⟩
  exact ⟨Nat.le_trans (cutV_length xs lo hi) hz, _, (r.drop (HT.sIx xs.length 0 lo)).take (HT.sIx xs.length xs.length hi - HT.sIx xs.length 0 lo), IsTup.new _ _⟩

/-! ### t < u, t + u -/
end
end L2

namespace L2
open PySem PySem.Spec PyProof.Rows

/-! ### places -/
def ixN (n : Nat) (i : Int) : Option Nat := if 0 ≤ i then (if i < n then some i.toNat else none) else if -(n : Int) ≤ i then some (i + n).toNat else none
def atI {α : Type} (xs : List α) (i : Int) : Option α := (ixN xs.length i).bind fun j => xs[j]?
theorem ixN_seq {n : Nat} {i : Int} {j : Nat} (h : ixN n i = some j) : seqIndex? i n = some j ∧ j < n ∧ -(n : Int) ≤ i ∧ i < n := by
  unfold ixN at h
  by_cases h0 : 0 ≤ i
  · rw [if_pos h0] at h
    by_cases h1 : i < n
    · rw [if_pos h1] at h
      have e : i.toNat = j := Option.some.inj h
      exact ⟨by rw [seqIndex_of h0 h1, e], by omega, by omega, h1⟩
    · rw [if_neg h1] at h; cases h
  · rw [if_neg h0] at h
    by_cases h1 : -(n : Int) ≤ i
    · rw [if_pos h1] at h
      have e : (i + n).toNat = j := Option.some.inj h
      exact ⟨by rw [seqIndex_neg (by omega) h1, e], by omega, h1, by omega⟩
    · rw [if_neg h1] at h; cases h
theorem atI_get {α : Type} {xs : List α} {i : Int} {v : α} (h : atI xs i = some v) : ∃ j, seqIndex? i xs.length = some j ∧ xs[j]? = some v ∧ j < xs.length ∧ -(xs.length : Int) ≤ i ∧ i < xs.length := by
  unfold atI at h
  cases e : ixN xs.length i with
  | none => rw [e] at h; cases h
  | some j =>
    rw [e] at h
    obtain ⟨h1, h2, h3, h4⟩ := ixN_seq e
    exact ⟨j, h1, h, h2, h3, h4⟩
theorem atI_nat {α : Type} {xs : List α} {j : Nat} {v : α} (h : xs[j]? = some v) : atI xs (j : Int) = some v := by
  have hj : j < xs.length := (List.getElem?_eq_some_iff.mp h).1
  have e : ixN xs.length (j : Int) = some j := by
    unfold ixN
    rw [if_pos (by omega), if_pos (by omega)]; simp
  unfold atI; rw [e]; exact h
/-! ### what may be subscripted -/
def PlainIx (b : Expr) : Prop := ∀ o i, subscripted b false o i = operate [o, i] (getItem o i)
def IxR (X : Cx) (r : R2) : Prop :=
  ∀ (value slice : Expr) (pins : List (Addr × Obj)) (s : Shared) (σ : St) (H : Hp) (x y : V) (v u : Value) (Q : VK), Inv X pins σ H s → RelV x v → RelV y u → r x y H Q →
    subscripted slice false v u = operate [v, u] (getItem v u) → wpAny (model X.prog X.w) X.A (subscriptTail value slice v u) (EP X pins σ Q) X.xe s
def MtR (X : Cx) (id : String) (r : V → List V → Hp → VK → Prop) : Prop :=
  ∀ (pins : List (Addr × Obj)) (s : Shared) (σ : St) (H : Hp) (x : V) (xs : List V) (v : Value) (us : List Value) (Q : VK), Inv X pins σ H s → RelV x v → Vals xs us → r x xs H Q →
    wpAny (model X.prog X.w) X.A (call (.builtin id) (v :: us)) (EP X pins σ Q) X.xe s
section
variable {X : Cx} {a b : Expr} {ta tb : TE} {pos : Pos}
theorem pe_ix {r : R2} (hr : IxR X r) (ha : PE X a ta) (hb : PE X b tb) (hs : PlainIx b) : PE X (.Subscript a b pos) (tOp r ta tb) := by
  intro pins s σ H Q I h
  exact Subscript_ (binT ha hb I h fun v u s2 x y H2 I2 rx ry q => hr a b pins s2 σ H2 x y v u Q I2 rx ry q (hs _ _))

def rIxL (K : PySem.W.Frag) : R2 := fun x y H Q => ∃ p xs i v, x = .ref p ∧ y = .int i ∧ SqL K H p xs ∧ atI xs i = some v ∧ Q v H
def rIxT (K : PySem.W.Frag) : R2 := fun x y H Q => ∃ p xs i v, x = .ref p ∧ y = .int i ∧ SqT K H p xs ∧ atI xs i = some v ∧ Q v H
theorem ix_list : IxR X (rIxL X.K) := by
  intro value slice pins s σ H x y v u Q I rx ry h hs
  obtain ⟨p, xs, i, z, rfl, rfl, hq, he, q⟩ := h
  cases rx
  obtain ⟨t, rfl⟩ := ry
  obtain ⟨its, r, pl, hz⟩ := I.list hq
  obtain ⟨j, h1, h2, h3, h4, h5⟩ := atI_get he
  obtain ⟨w, ew, rw'⟩ := r.get h2
  have hl := r.length
  have hn := line63
  have fin : EP X pins σ Q w s := ⟨z, H, I, rw', q⟩
  by_cases h0 : 0 ≤ i
  · have hj : i.toNat = j := by
      rw [seqIndex_of h0 h5] at h1
      exact Option.some.inj h1
    exact item_listR pl.isList h0 (by omega) (by rw [hj]; simpa using ew) fin hs
  · have hj : (i + (its.toArray.size : Int)).toNat = j := by
      rw [seqIndex_neg (by omega) h4] at h1
      rw [List.size_toArray, ← hl]
      exact Option.some.inj h1
    exact subscriptTail_builtinR (x := w) pl.isList.typeIs slot_list_getitem.lookup
      (wpAny_getItem_list_neg (Q := fun r s' => r = w ∧ EP X pins σ Q r s') pl.isList (by omega) (by rw [List.size_toArray] <;> omega) (by omega) (by rw [hj]; simpa using ew) ⟨rfl, fin⟩) hs
theorem ix_tup : IxR X (rIxT X.K) := by
  intro value slice pins s σ H x y v u Q I rx ry h hs
  obtain ⟨p, xs, i, z, rfl, rfl, hq, he, q⟩ := h
  cases rx
  obtain ⟨t, rfl⟩ := ry
  obtain ⟨its, r, pl, hz⟩ := I.tuple hq
  obtain ⟨j, h1, h2, h3, h4, h5⟩ := atI_get he
  obtain ⟨w, ew, rw'⟩ := r.get h2
  have hl := r.length
  have hn := line63
  have fin : EP X pins σ Q w s := ⟨z, H, I, rw', q⟩
  exact subscriptTail_builtinR (x := w) pl.typeIs slot_tuple_getitem.lookup
    (getItem_tuple (j := j) (Q := fun r s' => r = w ∧ EP X pins σ Q r s') pl (by omega) (by omega) (by rw [List.size_toArray, ← hl]; exact h1) (by simpa using ew) ⟨rfl, fin⟩) hs
/-! ### xs[i] = v, any sign -/
theorem mapSeq_set (its : List Value) (n j : Nat) (u : Value) : Obj.mapSeq (·.setIfInBounds j u) { cls := .type "list", data := .seq its.toArray n } = { cls := .type "list", data := .seq (its.set j u).toArray n } := by
  simp [Obj.mapSeq]
theorem Inv.lst {pins : List (Addr × Obj)} {σ : St} {H : Hp} {s : Shared} {p : Addr} {xs : List V} (I : Inv X pins σ H s) (h : H p = some (.lst xs)) :
    ∃ (its : List Value) (n : Nat), Vals xs its ∧ s.heap.get? p = some { cls := .type "list", data := .seq its.toArray n } ∧ xs.length ≤ sizeLine := by
  obtain ⟨z, its, n, r, e⟩ := I.hok p _ h
  exact ⟨its, n, r, e, z⟩
theorem Inv.lstUpd {pins : List (Addr × Obj)} {σ : St} {H : Hp} {s : Shared} {p : Addr} {xs ys : List V} {its its' : List Value} {n n' : Nat} {f : Obj → Obj} (I : Inv X pins σ H s) (h : H p = some (.lst xs))
    (ho : s.heap.get? p = some { cls := .type "list", data := .seq its.toArray n }) (hf : f { cls := .type "list", data := .seq its.toArray n } = { cls := .type "list", data := .seq its'.toArray n' }) (r : Vals ys its') (hz : ys.length ≤ sizeLine) (t : Nat) :
    Inv X pins σ (upd H p (.lst ys)) { s with heap := s.heap.update p f, toks := t } := by
  have e : (s.heap.update p f).get? p = some { cls := .type "list", data := .seq its'.toArray n' } := by
    rw [Heap.get?_update_self f ho (by rw [hf] <;> rfl), hf]
  refine I.write (x := p) (e := p) (by rw [h]; trivial) (.inl rfl) (fun b u hb q => (Heap.get?_update_other _ _ (Ne.symm hb)).trans q) ⟨_, e⟩ ?_
  exact ⟨hz, its', n', r, e⟩
def rSetL : V → V → V → Hp → (Hp → Prop) → Prop := fun o i v H Q => ∃ p xs k j, o = .ref p ∧ i = .int k ∧ H p = some (.lst xs) ∧ ixN xs.length k = some j ∧ Q (upd H p (.lst (xs.set j v)))
theorem set_list : PSet X rSetL := by
  intro pins s σ H o i v ov iv u Q I ro ri rv h
  obtain ⟨p, xs, k, j, rfl, rfl, hp, hj, q⟩ := h
  cases ro
  obtain ⟨t, rfl⟩ := ri
  obtain ⟨its, n, r, ho, hz⟩ := I.lst hp
  obtain ⟨h1, h2, h3, h4⟩ := ixN_seq hj
  have hl := r.length
  have hn := line63
  have I' : Inv X pins σ (upd H p (.lst (xs.set j v))) { s with heap := s.heap.update p (Obj.mapSeq (·.setIfInBounds j u)) } :=
    I.lstUpd hp ho (mapSeq_set its n j u) (r.set rv j) (by rw [List.length_set]; exact hz) s.toks
  by_cases h0 : 0 ≤ k
  · have hk : k.toNat = j := by
      rw [seqIndex_of h0 h4] at h1
      exact Option.some.inj h1
    exact PySem.W.ki_setAt ho h0 (by omega) (by rw [List.size_toArray, ← hl]; exact h4) (by rw [hk]; exact ⟨_, I', q⟩)
  · have hk : (k + (its.toArray.size : Int)).toNat = j := by
      rw [seqIndex_neg (by omega) h3] at h1
      rw [List.size_toArray, ← hl]
      exact Option.some.inj h1
    exact PySem.W.ki_setBack ho (by omega) (by rw [List.size_toArray, ← hl]; exact h3) (by omega) (by rw [hk]; exact ⟨_, I', q⟩)

/-! ### slices -/
theorem slice_bounds (lo hi : Option Int) (n : Nat) : (sliceBounds lo hi none n).1 = ((HT.sIx n 0 lo : Nat) : Int) ∧ (sliceBounds lo hi none n).2.1 = ((HT.sIx n n hi : Nat) : Int) ∧ (sliceBounds lo hi none n).2.2 = 1 := by
  refine ⟨?_, ?_, rfl⟩
  · cases lo with
    | none => simp [sliceBounds, HT.sIx]
    | some i =>
      simp only [sliceBounds, HT.sIx, Option.getD_none, show (1 : Int) > 0 by decide, if_true]
      by_cases h : i < 0
      · simp only [h, if_true] <;> omega
      · simp only [h, if_false] <;> omega
  · cases hi with
    | none => simp [sliceBounds, HT.sIx]
    | some i =>
      simp only [sliceBounds, HT.sIx, Option.getD_none, show (1 : Int) > 0 by decide, if_true]
      by_cases h : i < 0
      · simp only [h, if_true] <;> omega
      · simp only [h, if_false] <;> omega
theorem slicePick_cut (its : List Value) (lo hi : Option Int) : slicePick its.toArray lo hi none = ((its.drop (HT.sIx its.length 0 lo)).take (HT.sIx its.length its.length hi - HT.sIx its.length 0 lo)).toArray := by
  obtain ⟨h1, h2, h3⟩ := slice_bounds lo hi its.toArray.size
  unfold slicePick
  rw [h1, h2, h3]
  simp only [sliceRange_one, pick_run, List.size_toArray] <;> rfl
def rSlL (K : PySem.W.Frag) : V → Option Int → Option Int → Hp → VK → Prop := fun x lo hi H Q => ∃ a xs, x = .ref a ∧ SqL K H a xs ∧ ∀ p, H p = none → Q (.ref p) (upd H p (.lst (cutV xs lo hi)))
theorem sl_list : SlR X (rSlL X.K) := by
  intro pins s σ H x v vl vu lo hi sl Q I rx hs pl pu h
  obtain ⟨a, xs, rfl, hx, q⟩ := h
  cases rx
  obtain ⟨its, r, ht, hz⟩ := I.list hx
  have hlen := r.length
  refine ⟨"list", _, slot_list_getitem.lookup, ht.isList.typeIs, ?_⟩
  refine wpAny_getItem_list_slice ht.isList hs pl pu .none (by simp) ?_ (by rw [List.size_toArray] <;> omega)
  rw [slicePick_cut, ← hlen]
  refine ⟨.ref s.heap.objs.size, _, I.laid (t' := s.toks) (o := .lst (cutV xs lo hi)) (fun b ob q => Heap.get?_push_of_some _ q) (Nat.le_refl _) ?_, rfl, q _ (I.hok.fresh (Nat.le_refl _))⟩
  exact ⟨Nat.le_trans (cutV_length xs lo hi) hz, _, 0, (r.drop (HT.sIx xs.length 0 lo)).take (HT.sIx xs.length xs.length hi - HT.sIx xs.length 0 lo), Heap.get?_push_size _ rfl⟩

/-! ### in, not in: flat items -/
def flatV : V → Bool
  | .non => true
  | .bl _ => true
  | .int _ => true
  | .str _ => true
  | _ => false
def eqV : V → V → Bool
  | .non, .non => true
  | .bl a, .bl b => a == b
  | .bl a, .int b => (if a then 1 else 0) == b
  | .int a, .bl b => a == (if b then 1 else 0)
  | .int a, .int b => a == b
  | .str a, .str b => a == b
  | _, _ => false
theorem eqAt_V {A : Around} {s : Shared} {y x : V} {u v : Value} (ry : RelV y u) (rx : RelV x v) (fy : flatV y = true) (fx : flatV x = true) : SeqAt.EqAt A s u v (eqV y x) := by
  cases y with
  | non =>
    cases ry
    cases x with
    | non => cases rx; exact SeqAt.EqAt.same _
    | bl b => cases rx; exact SeqAt.EqAt.none_bool b
    | int b => obtain ⟨t, rfl⟩ := rx; exact SeqAt.EqAt.none_int b t
    | str b => obtain ⟨t, rfl⟩ := rx; exact SeqAt.EqAt.none_str b t
    | _ => exact absurd (show false = true from fx) Bool.false_ne_true
  | bl a =>
    cases ry
    cases x with
    | non => cases rx; exact SeqAt.EqAt.bool_none a
    | bl b => cases rx; exact SeqAt.EqAt.bool_bool a b
    | int b => obtain ⟨t, rfl⟩ := rx; exact SeqAt.EqAt.bool_int a b t
    | str b => obtain ⟨t, rfl⟩ := rx; exact SeqAt.EqAt.bool_str a b t
    | _ => exact absurd (show false = true from fx) Bool.false_ne_true
  | int a =>
    obtain ⟨t', rfl⟩ := ry
    cases x with
    | non => cases rx; exact SeqAt.EqAt.int_none a t'
    | bl b => cases rx; exact SeqAt.EqAt.int_bool a t' b
    | int b => obtain ⟨t, rfl⟩ := rx; exact SeqAt.EqAt.int_int a t' b t
    | str b => obtain ⟨t, rfl⟩ := rx; exact SeqAt.EqAt.int_str a t' b t
    | _ => exact absurd (show false = true from fx) Bool.false_ne_true
  | str a =>
    obtain ⟨t', rfl⟩ := ry
    cases x with
    | non => cases rx; exact SeqAt.EqAt.str_none a t'
    | bl b => cases rx; exact SeqAt.EqAt.str_bool a t' b
    | int b => obtain ⟨t, rfl⟩ := rx; exact SeqAt.EqAt.str_int a t' b t
    | str b => obtain ⟨t, rfl⟩ := rx; exact SeqAt.EqAt.str_str a t' b t
    | _ => exact absurd (show false = true from fx) Bool.false_ne_true
  | _ => exact absurd (show false = true from fy) Bool.false_ne_true
def eqU (x : V) (u : Value) : Bool := match u with
  | .none => eqV .non x
  | .bool b => eqV (.bl b) x
  | .int i _ => eqV (.int i) x
  | .str z _ => eqV (.str z) x
  | _ => false
theorem eqU_of {x y : V} {u : Value} (r : RelV y u) (f : flatV y = true) : eqU x u = eqV y x := by
  cases y with
  | non => cases r; rfl
  | bl b => cases r; rfl
  | int i => obtain ⟨t, rfl⟩ := r; rfl
  | str z => obtain ⟨t, rfl⟩ := r; rfl
  | _ => exact absurd (show false = true from f) Bool.false_ne_true
theorem any_eqU {x : V} : ∀ {xs : List V} {us : List Value}, Vals xs us → xs.all flatV = true → us.any (eqU x) = xs.any fun y => eqV y x
  | _, _, .nil, _ => rfl
  | y :: xs, u :: us, .cons r t, f => by
    rw [List.all_cons, Bool.and_eq_true] at f
    rw [List.any_cons, List.any_cons, eqU_of r f.1, any_eqU t f.2]
theorem mem_eqAt {A : Around} {s : Shared} {x : V} {v : Value} (rx : RelV x v) (fx : flatV x = true) : ∀ {xs : List V} {us : List Value}, Vals xs us → xs.all flatV = true → ∀ u ∈ us, SeqAt.EqAt A s u v (eqU x u)
  | _, _, .nil, _ => fun u hu => by cases hu
  | y :: xs, u :: us, .cons r t, f => fun u' hu => by
    rw [List.all_cons, Bool.and_eq_true] at f
    rcases List.mem_cons.mp hu with rfl | hu
    · rw [eqU_of r f.1]; exact eqAt_V r rx f.1 fx
    · exact mem_eqAt rx fx t f.2 u' hu
def inV (x : V) (xs : List V) : Bool := xs.any fun y => eqV y x
def rIn (K : PySem.W.Frag) (neg : Bool) : R2 := fun x y H Q => ∃ p xs, y = .ref p ∧ (SqL K H p xs ∨ SqT K H p xs) ∧ flatV x = true ∧ xs.all flatV = true ∧ Q (.bl (if neg then !inV x xs else inV x xs)) H
theorem op_in_seq : OpR X (compareOp .In) (rIn X.K false) := by
  intro pins s σ H x y v u Q I rx ry h
  obtain ⟨p, xs, rfl, hq, fx, fs, q⟩ := h
  cases ry
  rcases hq with hq | hq
  · obtain ⟨its, r, pl, hz⟩ := I.list hq
    refine SeqAt.in_listAt (eqU x) pl.isList (fun w hw => mem_eqAt rx fx r fs w (by simpa using hw)) ⟨.bl _, H, I, rfl, ?_⟩
    rw [show its.toArray.any (eqU x) = its.any (eqU x) by simp, any_eqU r fs]
    exact q
  · obtain ⟨its, r, pl, hz⟩ := I.tuple hq
    refine SeqAt.in_tupleAt (eqU x) pl (fun w hw => mem_eqAt rx fx r fs w (by simpa using hw)) ⟨.bl _, H, I, rfl, ?_⟩
    rw [show its.toArray.any (eqU x) = its.any (eqU x) by simp, any_eqU r fs]
    exact q
/-! ### len, list(x), tuple(x) of any list or tuple that is read -/
theorem call_len_seq : CallR X (.builtin "len") (fun xs H Q => ∃ p ys, xs = [.ref p] ∧ (SqL X.K H p ys ∨ SqT X.K H p ys) ∧ Q (.int ys.length) H) := by
  intro pins s σ H xs us Q I r h
  obtain ⟨p, ys, rfl, hq, q⟩ := h
  obtain ⟨u, rfl, rx⟩ := vals1 r
  cases rx
  have hn := line63
  rcases hq with hq | hq
  · obtain ⟨its, r', pl, hz⟩ := I.list hq
    have hlen := r'.length
    exact Calls.call_len_list pl.isList (by simp only [List.size_toArray] <;> omega) ⟨.int ys.length, H, I.tok _, ⟨s.toks + 1, by rw [List.size_toArray, hlen]⟩, q⟩
  · obtain ⟨its, r', pl, hz⟩ := I.tuple hq
    have hlen := r'.length
    exact len_tuple pl (by simp only [List.size_toArray] <;> omega) ⟨.int ys.length, H, I.tok _, ⟨s.toks + 1, by rw [List.size_toArray, hlen]⟩, q⟩
theorem call_list_of : CallR X (.type "list") (fun xs H Q => ∃ p ys, xs = [.ref p] ∧ (SqL X.K H p ys ∨ SqT X.K H p ys) ∧ ∀ l, H l = none → Q (.ref l) (upd H l (.lst ys))) := by
  intro pins s σ H xs us Q I r h
  obtain ⟨p, ys, rfl, hq, q⟩ := h
  obtain ⟨u, rfl, rx⟩ := vals1 r
  cases rx
  have fin : ∀ (its : List Value), Vals ys its → ys.length ≤ sizeLine → ∀ (h' : Heap) (c' : Nat), (∀ b o', s.heap.get? b = some o' → h'.get? b = some o') →
      h'.get? s.heap.objs.size = some { cls := .type "list", dict := none, data := .seq its.toArray c', slots := #[] } → EP X pins σ Q (.ref s.heap.objs.size) { s with heap := h' } := fun its r' hz h' c' kp e =>
    ⟨.ref s.heap.objs.size, _, I.laid (t' := s.toks) kp (Nat.le_refl _) (show ObjOk X.prog X.w _ h' _ (.lst ys) from ⟨hz, its, c', r', e⟩), rfl, q _ (I.hok.fresh (Nat.le_refl _))⟩
  rcases hq with hq | hq
  · obtain ⟨its, r', pl, hz⟩ := I.list hq
    have hlen := r'.length
    obtain ⟨o, ho, hc, n, hd⟩ := pl.isList
    exact call_list_seq p (.inl rfl) ho hc hd (fun h' c' kp e => fin its r' hz h' c' kp e) (by simp only [List.size_toArray] <;> omega)
  · obtain ⟨its, r', pl, hz⟩ := I.tuple hq
    have hlen := r'.length
    obtain ⟨o, ho, hc, n, hd⟩ := pl
    exact call_list_seq p (.inr rfl) ho hc hd (fun h' c' kp e => fin its r' hz h' c' kp e) (by simp only [List.size_toArray] <;> omega)
/-! ### the call of a builtin's method: o.m(..) -/
def tyV (K : PySem.W.Frag) (T : String) (x : V) (H : Hp) : Prop := match x with
  | .str _ => T = "str"
  | .int _ => T = "int"
  | .ref p => (T = "list" ∧ ∃ xs, SqL K H p xs) ∨ (T = "tuple" ∧ ∃ o, K.lookup p = some o ∧ o.cls = .type "tuple" ∧ o.dict = none) ∨
      (T = "dict" ∧ ((∃ kvs, H p = some (.dK kvs)) ∨ ∃ kvs, H p = some (.dT kvs))) ∨ (T = "set" ∧ ∃ S n, H p = some (.set S n))
  | _ => False
theorem tyV_is {pins : List (Addr × Obj)} {σ : St} {H : Hp} {s : Shared} {T : String} {x : V} {v : Value} (I : Inv X pins σ H s) (r : RelV x v) (ty : tyV X.K T x H) :
    s.TypeIs v T ∧ ∀ a, v = .ref a → ∃ ob, s.heap.get? a = some ob ∧ ob.dict = none := by
  cases x with
  | str z =>
    obtain ⟨t, rfl⟩ := r
    cases (show T = "str" from ty)
    exact ⟨typeIs_str s z t, fun _ e => nomatch e⟩
  | int i =>
    obtain ⟨t, rfl⟩ := r
    cases (show T = "int" from ty)
    exact ⟨typeIs_int s i t, fun _ e => nomatch e⟩
  | ref p =>
    cases r
    rcases ty with ⟨rfl, xs, hq⟩ | ⟨rfl, o, hk, hc, hd⟩ | ⟨rfl, hk⟩ | ⟨rfl, S, n, hk⟩
    · obtain ⟨its, _, pl, _⟩ := I.list hq
      refine ⟨pl.isList.typeIs, fun a e => ?_⟩
      cases e
      obtain ⟨o, n, e, c, hd, _⟩ := pl
      exact ⟨o, e, hd⟩
    · refine ⟨⟨o, I.kIn p o hk, hc⟩, fun a e => ?_⟩
      cases e
      exact ⟨o, I.kIn _ o hk, hd⟩
    · have z : ∃ o, s.heap.get? p = some o ∧ o.ExactDict := by
        rcases hk with ⟨kvs, hk⟩ | ⟨kvs, hk⟩
        · obtain ⟨_, _, _, _, o, _, _, e, ex, _⟩ := I.hok p _ hk
          exact ⟨o, e, ex⟩
        · obtain ⟨_, _, _, _, o, _, _, e, ex, _⟩ := I.hok p _ hk
          exact ⟨o, e, ex⟩
      obtain ⟨o, e, ex⟩ := z
      refine ⟨⟨o, e, ex.1⟩, fun a e2 => ?_⟩
      cases e2
      exact ⟨o, e, ex.2.1⟩
    · obtain ⟨o, _, _, _, e, ex, _⟩ := I.hok p _ hk
      refine ⟨⟨o, e, ex.1⟩, fun a e2 => ?_⟩
      cases e2
      exact ⟨o, e, ex.2.1⟩
  | _ => exact False.elim ty
def tBM0 (K : PySem.W.Frag) (T : String) (r : V → List V → Hp → VK → Prop) (to : TE) : TE := fun σ H Q => to σ H fun x H1 => tyV K T x H1 ∧ r x [] H1 Q
def tBM (K : PySem.W.Frag) (T : String) (r : V → List V → Hp → VK → Prop) (to : TE) (t : TA) : TE := fun σ H Q => to σ H fun x H1 => tyV K T x H1 ∧ t σ H1 fun xs H2 => r x xs H2 Q
variable {o e : Expr} {es : List Expr} {to : TE} {t : TA} {name : Str} {apos cpos : Pos} {T id : String} {r : V → List V → Hp → VK → Prop}
theorem pe_bm0 (pa : PlainAttrs T) (slot : Slot T name id) (hty : typeOf (.builtin id) = pure (.type "method_descriptor")) (hm : MtR X id r) (ho : PE X o to)
    (hbase : attributeBase o name X.env (eval o X.env) = eval o X.env := by rfl) (hline : (apos.endLine == cpos.line) = true := by rfl) : PE X (.Call (.Attribute o name apos) [] [] cpos) (tBM0 X.K T r to) := by
  intro pins s σ H Q I h
  refine wpAny_Call_method0_late hbase hline (thn (ho pins s σ H _ I h) fun v s1 ⟨x, H1, I1, r1, ty, q1⟩ => ?_)
  obtain ⟨h1, h2⟩ := tyV_is I1 r1 ty
  exact ⟨T, id, pa, slot, hty, h1, h2, Calls.callWith_builtin rfl (PySem.evalArgs_none (hm pins s1 σ H1 x [] v [] Q I1 r1 .nil q1))⟩
theorem pe_bm (pa : PlainAttrs T) (slot : Slot T name id) (hty : typeOf (.builtin id) = pure (.type "method_descriptor")) (hm : MtR X id r) (ho : PE X o to) (ha : PA X (e :: es) t)
    (hbase : attributeBase o name X.env (eval o X.env) = eval o X.env := by rfl)
    (hfew : ((backTo cpos (starEach (e :: es) X.env)).all (fun x => !x.1) && (backToKw cpos (keywordEach [] X.env)).all (fun x => x.1.isSome)
      && decide ((e :: es).length + ([] : List Keyword).length + (if ([] : List Keyword).isEmpty then 0 else 1) < 30)) = true := by rfl)
    (hline : (apos.endLine == cpos.line) = true := by rfl) (hs : starEach (e :: es) X.env = (false, eval e X.env) :: starEach es X.env := by rfl) (hplain : (backTo cpos (starEach es X.env)).any (·.1) = false := by rfl) :
    PE X (.Call (.Attribute o name apos) (e :: es) [] cpos) (tBM X.K T r to t) := by
  intro pins s σ H Q I h
  refine wpAny_Call_method_late hbase hfew hline rfl (thn (ho pins s σ H _ I h) fun v s1 ⟨x, H1, I1, r1, ty, q1⟩ => ?_)
  obtain ⟨h1, h2⟩ := tyV_is I1 r1 ty
  refine ⟨T, id, pa, slot, hty, h1, h2, ?_⟩
  have hA := ha cpos pins s1 σ H1 _ I1 q1
  rw [hs] at hA ⊢
  refine Calls.callWith_builtin (by show (false || (backTo cpos (starEach es X.env)).any (·.1)) = false; rw [hplain] <;> rfl) (Calls.evalArgs_plain ?_)
  exact thn hA fun us s2 ⟨vs, H2, I2, r2, q2⟩ => hm pins s2 σ H2 x vs v us Q I2 r1 r2 q2
/- xs.append(e), list.index on a module's tuple .. are MtR facts of 06m -/
end
end L2

namespace L2
open PySem PySem.Spec PyProof.Rows

def MtM (X : Cx) (id : String) (r : V → List V → Hp → VK → Prop) : Prop :=
  ∀ (pins : List (Addr × Obj)) (s : Shared) (σ : St) (H : Hp) (x : V) (xs : List V) (v : Value) (us : List Value) (Q : VK), Inv X pins σ H s → RelV x v → Vals xs us → r x xs H Q →
    wpAny (model X.prog X.w) X.A (call (.builtin id) (v :: us)) (EP X pins σ Q) X.xe s

/-! ### lists of values -/
theorem Vals.one {x : V} {us : List Value} (h : Vals [x] us) : ∃ u, us = [u] ∧ RelV x u := by
  cases h with
  | cons r t => cases t; exact ⟨_, rfl, r⟩
theorem Vals.two {x y : V} {us : List Value} (h : Vals [x, y] us) : ∃ u v, us = [u, v] ∧ RelV x u ∧ RelV y v := by
  cases h with
  | cons r t => cases t with
    | cons q t => cases t; exact ⟨_, _, rfl, r, q⟩
section
variable {X : Cx} {pins : List (Addr × Obj)} {σ : St} {H : Hp} {s : Shared} {l b : Addr} {xs ys zs : List V}

/-! ### the two steps: a tracked list is rewritten, a new list is laid -/
theorem Inv.lset {its its' : List Value} {n : Nat} {f : Array Value → Array Value} {t' : Nat} (I : Inv X pins σ H s) (hH : H l = some (.lst xs))
    (e : s.heap.get? l = some { cls := .type "list", data := .seq its.toArray n }) (hf : f its.toArray = its'.toArray) (hv : Vals ys its') (hz : ys.length ≤ sizeLine) :
    Inv X pins σ (upd H l (.lst ys)) { s with heap := s.heap.update l (Obj.mapSeq f), toks := t' } := by
  have q := PySem.IsL.update e f
  rw [hf] at q
  refine I.write (x := l) (e := l) (by rw [hH]; exact trivial) (.inl rfl) (fun b' u hb hu => (Heap.get?_update_other s.heap (Obj.mapSeq f) (Ne.symm hb)).trans hu) ⟨_, q⟩ ?_
  exact ⟨hz, its', _, hv, q⟩
theorem Inv.lnew {its : List Value} {t' : Nat} (I : Inv X pins σ H s) (hv : Vals ys its) (hz : ys.length ≤ sizeLine) :
    Inv X pins σ (upd H s.heap.objs.size (.lst ys)) { s with heap := s.heap.push { cls := .type "list", data := .seq its.toArray }, toks := t' } :=
  I.laid (fun _ _ q => Heap.get?_push_of_some _ q) (Nat.le_refl _) ⟨hz, its, 0, hv, Heap.get?_push_size _ rfl⟩
theorem Inv.fresh (I : Inv X pins σ H s) : H s.heap.objs.size = none := I.hok.fresh (Nat.le_refl _)
theorem Inv.lstM (I : Inv X pins σ H s) (hH : H l = some (.lst xs)) : xs.length ≤ sizeLine ∧ ∃ (its : List Value) (n : Nat), Vals xs its ∧ xs.length = its.length ∧ s.heap.get? l = some { cls := .type "list", data := .seq its.toArray n } := by
  obtain ⟨z, its, n, r, e⟩ := I.hok l _ hH
  exact ⟨z, its, n, r, r.length, e⟩

theorem notLongL {n : Nat} (h : n ≤ sizeLine) : Builtin.List.listTooLong n = false := by
  unfold Builtin.List.listTooLong
  exact decide_eq_false (by omega)
end

section
variable {X : Cx}

/-! ### methods -/
def rAppend : V → List V → Hp → VK → Prop := fun x vs H Q => ∃ l xs y, x = .ref l ∧ vs = [y] ∧ H l = some (.lst xs) ∧ xs.length < sizeLine ∧ Q .non (upd H l (.lst (xs ++ [y])))
theorem mt_append : MtM X "list.append" rAppend := by
  intro pins s σ H x vs v us Q I rx rv h
  obtain ⟨l, xs, y, rfl, rfl, hH, hz, q⟩ := h
  cases rx
  obtain ⟨u, rfl, ru⟩ := rv.one
  obtain ⟨z, its, n, r, hl, e⟩ := I.lstM hH
  refine call_meets F.slot_list_append ⟨_, e, rfl⟩ F.entry_list_append (F.args_list_append_2 _ _) (PySem.list_append l its.toArray n u (by rw [List.size_toArray]; omega)) ⟨e, ?_⟩
  refine ⟨.non, _, I.lset (its' := its ++ [u]) hH e (by simp) (r.append (.cons ru .nil)) ?_, rfl, q⟩
  rw [List.length_append, List.length_singleton]
  omega

def rExtend : V → List V → Hp → VK → Prop := fun x vs H Q => ∃ l b xs zs, x = .ref l ∧ vs = [.ref b] ∧ H l = some (.lst xs) ∧ H b = some (.lst zs) ∧ xs.length + zs.length ≤ sizeLine ∧ Q .non (upd H l (.lst (xs ++ zs)))
theorem mt_extend : MtM X "list.extend" rExtend := by
  intro pins s σ H x vs v us Q I rx rv h
  obtain ⟨l, b, xs, zs, rfl, rfl, hH, hB, hz, q⟩ := h
  cases rx
  obtain ⟨u, rfl, ru⟩ := rv.one
  cases ru
  obtain ⟨z, its, n, r, hl, e⟩ := I.lstM hH
  obtain ⟨z2, its2, n2, r2, hl2, e2⟩ := I.lstM hB
  have hsz : its.toArray.size + its2.toArray.size ≤ sizeLine := by rw [List.size_toArray, List.size_toArray]; omega
  have hlong : ¬ (!its.toArray.isEmpty && Builtin.List.listTooLong (its.toArray.size + its2.toArray.size)) = true := by
    rw [notLongL hsz, Bool.and_false]
    exact Bool.false_ne_true
  refine call_meets F.slot_list_extend ⟨_, e, rfl⟩ F.entry_list_extend (F.args_list_extend_2 _ _)
    (AutoSeq1.list_extend_list_list_0 l its.toArray n b its2.toArray n2 hlong (by rw [List.size_toArray]; omega) (by omega)) ⟨e, e2, ?_⟩
  refine ⟨.non, _, I.lset (its' := its ++ its2) hH e (by simp) (r.append r2) ?_, rfl, q⟩
  rw [List.length_append]
  omega

/-! ### list + list, list += list, list * int -/
def rCat : R2 := fun x y H Q => ∃ l b xs zs, x = .ref l ∧ y = .ref b ∧ H l = some (.lst xs) ∧ H b = some (.lst zs) ∧ xs.length + zs.length ≤ sizeLine ∧ ∀ p, H p = none → Q (.ref p) (upd H p (.lst (xs ++ zs)))
theorem op_cat : OpR X (binaryOp .Add) rCat := by
  intro pins s σ H x y v u Q I rx ry h
  obtain ⟨l, b, xs, zs, rfl, rfl, hH, hB, hz, q⟩ := h
  cases rx
  cases ry
  obtain ⟨z, its, n, r, hl, e⟩ := I.lstM hH
  obtain ⟨z2, its2, n2, r2, hl2, e2⟩ := I.lstM hB
  refine PySem.P.add_list e e2 ?_ (by rw [List.size_toArray, List.size_toArray]; omega)
  have ea : its.toArray ++ its2.toArray = (its ++ its2).toArray := by simp
  rw [ea]
  exact ⟨.ref _, _, I.lnew (t' := s.toks) (r.append r2) (by rw [List.length_append]; omega), rfl, q _ I.fresh⟩
/-! ### del xs[i] -/
end

/-! ### xs[a:b] = ys -/
section
variable {prog : Program} {w : World} {A : Around} {E : Value → Shared → Prop} {s : Shared}
end

section
variable {X : Cx}
end
end L2

namespace Att
open PySem PySem.W PySem.Calls PyProof.Rows

/-! ### the script -/
theorem ints_of_wellAll {P : Params} {h : Heap} : ∀ (ns : List Int) (vs : List Value), WellAll P h vs (ns.map WData.int) → IntsAre vs ns := by
  intro ns
  induction ns with
  | nil =>
    intro vs w
    rw [List.map_nil] at w
    cases w
    exact .nil
  | cons n ns ih =>
    intro vs w
    rw [List.map_cons] at w
    cases w with
    | cons a b =>
      cases a
      exact .cons _ _ (ih _ b)

theorem script_of {l : OpenLaw} {n : Nat} (hn : l.most = some n) {P : Params} {h : Heap} {args : List WData} {vals : List Value}
    (hpre : l.row.toRowW.claim.pre args = true) (hwl : WellAll P h vals args) :
    ∃ a vs ns, vals = [Value.ref a] ∧ args = [WData.list (ns.map WData.int)] ∧ h.get? a = some { cls := .type "list", data := .seq vs.toArray } ∧ IntsAre vs ns ∧ ns.length ≤ n := by
  have hsh : WShape.hasAll [] args [.list .int] = true := (pre_splitW hpre).1
  have hc : l.pre.holds [] { args := args } = true := (pre_splitW hpre).2
  obtain ⟨d, r, rfl, h1, h2⟩ := hasAllW_cons hsh
  obtain rfl := hasAllW_nil h2
  obtain ⟨xs, rfl, h3⟩ := hasW_list h1
  obtain ⟨ns, rfl⟩ := items_int h3
  have hlen : ns.length ≤ n := by
    unfold OpenLaw.pre at hc
    have h4 : (WTm.not (.lt (.lit (.int (n : Int))) (.len (.arg 0)))).holds [] { args := [.list (ns.map .int)] } = true := by
      have h4 := (holds_andW hc).1
      rw [hn] at h4
      exact h4
    have h5 := condW_of h4 (w_not (w_lt w_lit (w_len_list (w_arg rfl))))
    rw [List.length_map] at h5
    refine Nat.le_of_not_lt fun q => ?_
    have q' : (n : Int) < ((ns.length : Nat) : Int) := by omega
    first
      | (rw [decide_eq_true q'] at h5; exact absurd h5 (by decide))
      | (simp at h5; omega)
  cases hwl with
  | cons w1 w2 =>
    cases w2
    cases w1 with
    | list ho hall => exact ⟨_, _, ns, rfl, rfl, ho, ints_of_wellAll ns _ hall, hlen⟩

theorem post_true (l : OpenLaw) (args : List WData) : l.row.toRowW.claim.post args (.bool true) args = true :=
  postW_of (r := l.row.toRowW) (X := (true == true))
    (show WShape.has [] (.bool true) .bool = true by first | rfl | decide | simp [WShape.has, WShape.arms, WShape.armsAll])
    (show (WTm.eq .res (.lit (.bool true))).value [] { args := args, res := some (.bool true), after := args } = some (.bool (true == true)) from w_eq_bool (w_res rfl) w_lit) rfl

/-! ### the attachment: holds_open's last premise (the goal 'hc' behind k_head) from a wpAny of the law's body -/
/-! ### rules over ANY heap (no ledger) from facts about the written part K: the library's own take a ledger (News) for what they write -/
section
variable {prog : Program} {w : World} {A : Around} {E : Value → Shared → Prop} {s : Shared} {K : Frag}

/-! the whole heap as the ledger: makes every rule that writes through a ledger a rule over any heap -/
end
end Att

namespace L2
open PySem PySem.Spec PyProof.Rows

theorem vals_ints : ∀ {vs : List Value} {ns : List Int}, IntsAre vs ns → Vals (ns.map V.int) vs
  | _, _, .nil => .nil
  | _, _, .cons n t h => .cons ⟨t, rfl⟩ (vals_ints h)

def Only (H : Hp) : Prop := ∀ b, H b = none ∨ ∃ o xs, H b = some (.frz o (.lst xs))

theorem law_call {P : Program} {w : World} {K : PySem.W.Frag} {mg mb : Str → Option Value} {CX : CXT} {k : Nat} {fa a : Addr} {fd : FuncData} {x : Str} {sp : Sp} {s₁ : Shared} {vs : List Value} {ns : List Int}
    (KX : K.In s₁.heap) (hns : s₁.heap.Ns mainGlobals mg) (hb : s₁.heap.Ns builtinsNs mb) (hbb : ∀ x : Str, x ≠ "__name__" → mb x = bootBuiltins x) (hlim : s₁.heap.NoLimit) (hg : s₁.gens = #[])
    (ha : s₁.heap.get? a = some { cls := .type "list", data := .seq vs.toArray }) (hi : IntsAre vs ns) (hl : ns.length ≤ sizeLine) (hr : Room k callerA)
    (F : ∀ base : Heap, K.In base → base.Ns mainGlobals mg → FnOk P w K mg base CX k fa fd [x] sp) (hbind : ∀ (s : Shared) (u : Value), BindsTo s fd ⟨[u], []⟩ [(x, u)])
    (hsp : ∀ H : Hp, Only H → SqL K H a (ns.map V.int) → sp [.ref a] H (fun v _ => v = .bl true) fun _ _ _ => False)
    (hCX : ∀ H e s', CX [] H s₁ (fun _ _ _ => False) e s' → False) :
    codeAny (model P w) callerA (.call (.ref fa) ⟨[.ref a], []⟩) (fun r s' => r = .ok (.ret (.bool true)) ∧ OldK s₁.heap s'.heap ∧ s'.os = s₁.os ∧ AllBare s'.gens) s₁ := by
  have rv := vals_ints hi
  have lenV := hi.length
  -- from an abstract heap in which nothing but the script may be tracked
  have core : ∀ H : Hp, Only H → SqL K H a (ns.map V.int) → HOk P w H s₁.heap → (∀ b, H b ≠ none → b = a) → (H a ≠ none → K.lookup a = none) →
      codeAny (model P w) callerA (.call (.ref fa) ⟨[.ref a], []⟩) (fun r s' => r = .ok (.ret (.bool true)) ∧ OldK s₁.heap s'.heap ∧ s'.os = s₁.os ∧ AllBare s'.gens) s₁ := by
    intro H hO hS hok hA hK
    have base_of : ∀ {b : Addr} {o : Obj}, s₁.heap.get? b = some o → H b = none → (hidT s₁.heap H).get? b = some o := fun e n => hidT_get e n
    have noA : ∀ {b : Addr} {o : Obj} {es : Array DictEntry} {ep : Nat}, s₁.heap.get? b = some o → o.data = .dict es ep → H b = none := fun {b o es ep} e d => by
      cases q : H b with
      | none => rfl
      | some u =>
        have e' : b = a := hA b (by rw [q]; simp)
        subst e'
        rw [ha] at e; cases e
        have d' : Data.seq vs.toArray _ = Data.dict es ep := d
        cases d'
    have nsK : ∀ {b : Addr} {m : Str → Option Value}, s₁.heap.Ns b m → (hidT s₁.heap H).Ns b m := fun {b m} ⟨o, es, ep, e, d, r⟩ => ⟨o, es, ep, base_of e (noA e d), d, r⟩
    have hKb : K.In (hidT s₁.heap H) := fun b o e => base_of (KX b o e) (by
      cases q : H b with
      | none => rfl
      | some u =>
        have e' : b = a := hA b (by rw [q]; simp)
        subst e'
        rw [hK (by rw [q]; simp)] at e; cases e)
    have hM : Mod K mg (hidT s₁.heap H) := ⟨hKb, nsK hns, ⟨mb, nsK hb, hbb⟩, let ⟨mc, h1, h2⟩ := hlim; ⟨mc, nsK h1, h2⟩⟩
    have e0 : Env0 P w K mg (hidT s₁.heap H) callerA [] s₁ H := ⟨rfl, hM, fun b o e => of_hidT e, Nat.le_of_eq (hidT_size _ _), trivial, fun b hb => absurd (show b ∈ ([] : List Addr) from hb) (by simp), hok, .of_eq hg⟩
    refine codeAny_mono ((F _ hKb (nsK hns)).run callerA [] s₁ H ⟨[.ref a], []⟩ [.ref a] [.ref a] _ _ hr e0 (hbind s₁ (.ref a)) (.cons rfl .nil) (hsp H hO hS)) fun r s' h => ?_
    cases r with
    | error e => exact (hCX H e s' h).elim
    | ok fl =>
      cases fl with
      | next => exact False.elim h
      | brk => exact False.elim h
      | cont => exact False.elim h
      | ret u =>
        obtain ⟨v, H', os, bare, un, hok', r', q⟩ := h
        have q' : v = .bl true := q
        subst q'
        obtain rfl : u = Value.bool true := r'
        refine ⟨rfl, OldK.of_keep fun b o e => ?_, os, bare⟩
        cases q : H b with
        | none => exact un.keep b o e q (by intro z; exact absurd (show b ∈ ([] : List Addr) from z) (by simp)) (by simp)
        | some u =>
          rcases hO b with z | ⟨ob, xs, z⟩
          · rw [q] at z; cases z
          · have z2 := un.frzs b ob _ z
            obtain ⟨e1, _⟩ := hok b _ z
            obtain ⟨e2, _⟩ := hok' b _ z2
            rw [e] at e1; cases e1
            exact e2
  cases hk : K.lookup a with
  | some o =>
    -- the script is one of the module's own objects
    have e := KX a o hk
    rw [ha] at e
    cases e
    refine core (fun _ => none) (fun _ => .inl rfl) (.inr ⟨_, vs.toArray, _, hk, rfl, rfl, rfl, by rw [List.size_toArray, lenV]; exact hl, by simpa using rv⟩) (fun b u z => by have z' : (none : Option HO) = some u := z; cases z') (fun b z => absurd rfl z) fun z => absurd rfl z
  | none =>
    refine core (fun b => if b = a then some (.frz { cls := .type "list", data := .seq vs.toArray } (.lst (ns.map V.int))) else none) (fun b => ?_) (.inl (.inr ⟨{ cls := .type "list", data := .seq vs.toArray }, if_pos rfl⟩)) (fun b u z => ?_) (fun b z => ?_) fun _ => hk
    · by_cases hb : b = a
      · exact .inr ⟨_, _, if_pos hb⟩
      · exact .inl (if_neg hb)
    · by_cases hb : b = a
      · have z' := (if_pos hb).symm.trans z
        cases z'
        subst hb
        exact ⟨ha, by rw [List.length_map]; exact hl, vs, _, rv, ha⟩
      · have z' := (if_neg hb).symm.trans z
        cases z'
    · by_cases hb : b = a
      · exact hb
      · exact absurd (if_neg hb) z
end L2

namespace L2
open PySem PySem.Spec PyProof.Rows

end L2


/-! SHORT WORDS over the layer: a def of the text, its body, what a loop and a test want. -/
namespace L2
open PySem PySem.Spec PyProof.Rows

/-! ### the text by places -/
def inClass (s : Stmt) (j : Nat) : Stmt := match s with
  | .ClassDef _ _ _ body _ _ _ _ _ _ _ => body.getD j (.Pass ⟨0, 0, 0, 0⟩)
  | _ => .Pass ⟨0, 0, 0, 0⟩
def defArgs (s : Stmt) : Arguments := match s with
  | .FunctionDef _ a _ _ _ _ _ _ _ _ => a
  | _ => { posonlyargs := [], args := [], vararg := none, kwonlyargs := [], kw_defaults := [], kwarg := none, defaults := [] }
def defBody (s : Stmt) : List Stmt := match s with
  | .FunctionDef _ _ b _ _ _ _ _ _ _ => b
  | _ => []
def defScope (s : Stmt) : Scope := match s with
  | .FunctionDef _ _ _ _ _ _ sc _ _ _ => sc
  | _ => { kind := .function, names := [], isGenerator := false, isCoroutine := false }

/-! ### no exception leaves a def -/
abbrev CX0 : CXT := fun _ _ _ _ _ _ => False
abbrev E0 : XK := fun _ _ _ => False
theorem pass0 {X : Cx} : Passes CX0 X E0 := fun _ _ _ _ _ _ _ h => h.elim

/-! ### a def (or method) of the text as it stands behind the top -/
structure Fun (K : PySem.W.Frag) (x qual : Str) (st : Stmt) (f : Addr) (fd : FuncData) : Prop where
  ex : ∃ (oc : Value) (od : Option Addr) (kV doc pm : Value) (an : Option Addr) (cdv ct : Value) (osl : Array (Option Value)),
    fd = PySem.W.fnOf x qual (defArgs st) (defBody st) (defScope st) .none kV doc pm an cdv ct ∧ K.lookup f = some ⟨oc, od, .func fd, osl⟩ ∧ PySem.W.codeIn K cdv qual = true
  kp : PySem.W.keepIn K (.ref f) = true
section
variable {P : Program} {w : World} {K : PySem.W.Frag} {mg : Str → Option Value} {base : Heap}
theorem Fun.ok {x qual : Str} {st : Stmt} {f : Addr} {fd : FuncData} {N ps : List Str} {k : Nat} {sp : Sp} (F : Fun K x qual st f fd) (S : FnScope N ps (defScope st)) (len : ∀ vs H Q E, sp vs H Q E → vs.length = ps.length)
    (hbody : ∀ (cdv : Value) (A : Around) (outer : List Env) (s : Shared) (H : Hp) (vs : List V) (Q : VK) (E : XK), Room k (A.deeper (envOfC qual (defScope st) s.heap.objs.size f cdv)) → sp vs H Q E →
      ∃ t, PSs (cxOf CX0 P w K mg base N qual (defScope st) f cdv A outer s H E).nox (defBody st) t ∧ t { nx := fun _ H' => Q .non H', rt := Q } (start N vs) H) : FnOk P w K mg base CX0 (k + 1) f fd ps sp := by
  obtain ⟨oc, od, kV, doc, pm, an, cdv, ct, osl, rfl, lk, hcd⟩ := F.ex
  refine fn_of lk hcd S len fun A outer s H vs Q E hr hsp => ?_
  obtain ⟨t, h, q⟩ := hbody cdv A outer s H vs Q E hr hsp
  exact ⟨t, h.nox, q⟩
theorem fun_mk {x qual : Str} {st : Stmt} {f : Addr} {oc : Value} {od an : Option Addr} {osl : Array (Option Value)} {kV doc pm cdv ct : Value} (l : K.lookup f = some ⟨oc, od, .func (PySem.W.fnOf x qual (defArgs st) (defBody st) (defScope st) .none kV doc pm an cdv ct), osl⟩)
    (c : PySem.W.codeIn K cdv qual = true) (k : PySem.W.keepIn K (.ref f) = true) : Fun K x qual st f (PySem.W.fnOf x qual (defArgs st) (defBody st) (defScope st) .none kV doc pm an cdv ct) := ⟨⟨oc, od, kV, doc, pm, an, cdv, ct, osl, rfl, l, c⟩, k⟩
end
/-! ### expressions in short: the name that stands in the i-th slot -/
section
variable {X : Cx}
theorem pv (i : Nat) {x : Str} {pos : Pos} (hN : X.N[i]? = some x := by rfl) (hv : Vis X.env.scope x := by first | exact Or.inl rfl | exact Or.inr (Or.inl rfl) | exact Or.inr (Or.inr rfl)) (hd : (x == ("__debug__" : Str)) = false := by decide)
    (hcd : (x == ("__classdict__" : Str)) = false := by decide) : PE X (.Name x pos) (tVar i) := pe_var hN hv hd hcd
end

/-! ### tests -/
theorem iteF {A B : Prop} (h : B) : if false = true then A else B := by
  rw [if_neg Bool.false_ne_true]
  exact h
theorem iteT {A B : Prop} (h : A) : if true = true then A else B := by
  rw [if_pos rfl]
  exact h
/-! ### heaps -/
def Same (H H' : Hp) : Prop := ∀ b o, H b = some o → H' b = some o
theorem Same.refl (H : Hp) : Same H H := fun _ _ h => h
theorem Same.trans {H H1 H2 : Hp} (a : Same H H1) (b : Same H1 H2) : Same H H2 := fun c o h => b c o (a c o h)
theorem Same.free {H H' : Hp} (e : Same H H') {l : Addr} (h : H' l = Option.none) : H l = Option.none := by
  cases q : H l with
  | none => rfl
  | some o =>
    rw [e l o q] at h
    cases h
theorem Same.seq {K : PySem.W.Frag} {H H' : Hp} {a : Addr} {xs : List V} (e : Same H H') (h : SqL K H a xs) : SqL K H' a xs := by
  rcases h with (h | ⟨o, h⟩) | h
  · exact .inl (.inl (e _ _ h))
  · exact .inl (.inr ⟨o, e _ _ h⟩)
  · exact .inr h

end L2


set_option maxHeartbeats 4000000
/-! more rules over the layer: great ints, is, tuples compared, lists unpacked, ranges by steps, list comprehensions -/
namespace L2
open PySem PySem.Spec PyProof.Rows

/-! ### great ints -/
def Sz (k : Nat) (x : Int) : Prop := x.natAbs < 2 ^ k
instance (k : Nat) (x : Int) : Decidable (Sz k x) := by unfold Sz; infer_instance
theorem Sz.mono {j k : Nat} {x : Int} (h : Sz j x) (hjk : j ≤ k) : Sz k x := Nat.lt_of_lt_of_le h (Nat.pow_le_pow_right (by decide) hjk)
theorem Sz.le {k : Nat} {x y : Int} (h : Sz k x) (hy : y.natAbs ≤ x.natAbs) : Sz k y := Nat.lt_of_le_of_lt hy h
theorem Sz.mul {j k : Nat} {x y : Int} (h : Sz j x) (h' : Sz k y) : Sz (j + k) (x * y) := by
  unfold Sz at *
  rw [Int.natAbs_mul, Nat.pow_add]
  exact Nat.mul_lt_mul'' h h'
theorem Sz.neg {k : Nat} {x : Int} (h : Sz k x) : Sz k (-x) := by unfold Sz at *; rwa [Int.natAbs_neg]
theorem Sz.add {j k : Nat} {x y : Int} (h : Sz j x) (h' : Sz k y) : Sz (max j k + 1) (x + y) := by
  have h1 := h.mono (Nat.le_max_left j k)
  have h2 := h'.mono (Nat.le_max_right j k)
  unfold Sz at *
  rw [Nat.pow_succ]
  have := Int.natAbs_add_le x y
  omega
theorem Sz.bits {k : Nat} {x : Int} (h : Sz k x) : Builtin.Int.intBits x ≤ k := by
  unfold Builtin.Int.intBits
  split
  · exact Nat.zero_le _
  · rename_i hx
    have hx' : x ≠ 0 := by simpa using hx
    have hn : x.natAbs ≠ 0 := by omega
    exact (Nat.log2_lt hn).mpr h
theorem Sz.log2 {k : Nat} {x : Int} (h : Sz k x) (hk : 0 < k) : x.natAbs.log2 < k := by
  by_cases hn : x.natAbs = 0
  · rw [hn]; simpa using hk
  · exact (Nat.log2_lt hn).mpr h
def CDivS (_i j : Int) : Prop := j ≠ 0 ∧ Sz 9000 j
section
variable {X : Cx}
theorem op_fdivS : OpR X (binaryOp .FloorDiv) (rI CDivS fun i j => .int (i.fdiv j)) := opI fun _ _ _ _ _ _ _ hc q => floordiv_int hc.1 q (.inl (PyProof.noPylong_of_log2 (hc.2.log2 (by decide))))
/-! ### is, is not of bools -/
/-! ### tuples of ints, == and != -/
theorem reads_tupI {h : Heap} {a : Addr} {vs : List Value} {ns : List Int} (hl : IsTup h a vs.toArray) (hi : IntsAre vs ns) : Reads h (.ref a) (.tuple (ns.map PyData.int)) [] := by
  obtain ⟨o, ho, hc, n, hd⟩ := hl
  exact Reads.tuple ho hc hd (by simpa using PySem.W.readsAll_of_ints hi)
theorem shaped_tupI (ns : List Int) : SeqAt.shaped (.tuple (ns.map PyData.int)) = true := by
  have h1 := PySem.W.depthAll_ints ns
  have h2 : PyData.depth (.tuple (ns.map PyData.int)) ≤ 64 := by simp only [PyData.depth]; omega
  show (PyData.canLay0 (.tuple (ns.map PyData.int)) && decide (PyData.depth (.tuple (ns.map PyData.int)) ≤ 64)) = true
  rw [Bool.and_eq_true]
  exact ⟨by simp only [PyData.canLay0]; exact PySem.W.canLayAll0_ints ns, decide_eq_true h2⟩
def rEqTI (K : PySem.W.Frag) (neg : Bool) : R2 := fun x y H Q => ∃ (a b : Addr) (ns ms : List Int), x = .ref a ∧ y = .ref b ∧ SqT K H a (ns.map V.int) ∧ SqT K H b (ms.map V.int) ∧ Q (.bl (if neg then !decide (ns = ms) else decide (ns = ms))) H
theorem op_eqTI (hu : X.A.units + 64 < cLine) : OpR X (compareOp .Eq) (rEqTI X.K false) := by
  intro pins s σ H x y v u Q I rx ry h
  obtain ⟨a, b, ns, ms, rfl, rfl, h1, h2, q⟩ := h
  cases rx; cases ry
  obtain ⟨its, rv, p, _⟩ := I.tuple h1
  obtain ⟨its', rv', p', _⟩ := I.tuple h2
  refine eq_dataH_same (reads_tupI p (intsAre_of rv)) (reads_tupI p' (intsAre_of rv')) (shaped_tupI ns) (shaped_tupI ms) hu (by simp only [SeqAt.noMix]; exact PySem.W.noMix_ints ns ms) ?_
  refine ⟨.bl (decide (ns = ms)), H, I, ?_, q⟩
  show _ = _
  simp only [PySem.Spec.same]
  rw [PySem.W.same_ints]
theorem op_neTI (hu : X.A.units + 64 < cLine) : OpR X (compareOp .NotEq) (rEqTI X.K true) := by
  intro pins s σ H x y v u Q I rx ry h
  obtain ⟨a, b, ns, ms, rfl, rfl, h1, h2, q⟩ := h
  cases rx; cases ry
  obtain ⟨its, rv, p, _⟩ := I.tuple h1
  obtain ⟨its', rv', p', _⟩ := I.tuple h2
  refine ne_dataH_same (reads_tupI p (intsAre_of rv)) (reads_tupI p' (intsAre_of rv')) (shaped_tupI ns) (shaped_tupI ms) hu (by simp only [SeqAt.noMix]; exact PySem.W.noMix_ints ns ms) ?_
  refine ⟨.bl (!decide (ns = ms)), H, I, ?_, q⟩
  show _ = _
  simp only [PySem.Spec.same]
  rw [PySem.W.same_ints]
/-! ### isinstance against a built-in class -/
theorem call_isinst : CallR X (.builtin "isinstance") (fun xs H Q => ∃ x T t b, xs = [x, .ty T] ∧ TyOf X.K H x t ∧ PySem.W.kitOne X.K t (.type T) = some b ∧ Q (.bl b) H) := by
  intro pins s σ H xs us Q I r h
  obtain ⟨x, T, t, b, rfl, ty, e, q⟩ := h
  obtain ⟨u, v, rfl, ru, rv⟩ := r.two
  cases rv
  exact isinst_ok I ru ty e fun tk => ⟨.bl b, H, I.tok tk, rfl, q⟩
end

/-! ### a list unpacked -/
section
variable {prog : Program} {w : World} {A : Around} {E : Value → Shared → Prop}
end
section
variable {X : Cx} {pos : Pos}
end

/-! ### range by steps -/
section
variable {X : Cx} {tg : Expr}
end
end L2

set_option maxHeartbeats 4000000
/-! list comprehensions of one clause without a test -/
namespace L2
open PySem PySem.Spec PyProof.Rows

theorem forIn_fold {α β : Type} {f : α → β → Sem (ForInStep β)} {g : β → α → β} : ∀ (l : List α) (b : β), (∀ x ∈ l, ∀ b, f x b = pure (.yield (g b x))) → forIn l b f = pure (l.foldl g b)
  | [], b, _ => rfl
  | x :: r, b, h => by
    rw [List.forIn_cons, h x List.mem_cons_self b, pure_bind]
    exact forIn_fold r (g b x) fun y hy => h y (List.mem_cons_of_mem _ hy)

def cloF (cells : List (Str × Addr)) (cs : List (Str × Addr)) (x : Str × NameKind) : List (Str × Addr) := if x.2 == .free then (x.1, (cells.lookup x.1).getD 0) :: cs else cs
def clo (names : List (Str × NameKind)) (cells : List (Str × Addr)) : List (Str × Addr) := names.foldl (cloF cells) []
theorem closure_eq {scope : Scope} {env : Env} (h : ∀ x ∈ scope.names, x.2 = .free → ∃ c, env.cells.lookup x.1 = some c) : closureFor scope env = pure (clo scope.names env.cells) := by
  simp only [closureFor]
  unfold clo
  rw [forIn_fold (g := cloF env.cells) scope.names [] (fun x hx b => by
    obtain ⟨n, k⟩ := x
    unfold cloF
    by_cases hk : k = .free
    · subst hk
      obtain ⟨c, hc⟩ := h (n, .free) hx rfl
      have hc' : env.cells.lookup n = some c := hc
      simp [cellOf, hc']
    · have hb : (k == NameKind.free) = false := by simpa using hk
      simp [hb])]
  rfl
theorem lookup_cons_eq {x n : Str} {c : Addr} {l : List (Str × Addr)} : List.lookup x ((n, c) :: l) = if x = n then some c else List.lookup x l := by
  by_cases h : x = n
  · subst h
    rw [if_pos rfl, List.lookup_cons_self]
  · rw [if_neg h, List.lookup_cons]
    have : (x == n) = false := by simpa using h
    rw [this]
theorem clo_sub {cells : List (Str × Addr)} : ∀ (names : List (Str × NameKind)) (cs : List (Str × Addr)), (∀ x ∈ names, x.2 = .free → ∃ c, cells.lookup x.1 = some c) → (∀ x c, cs.lookup x = some c → cells.lookup x = some c) →
    ∀ x c, (names.foldl (cloF cells) cs).lookup x = some c → cells.lookup x = some c
  | [], cs, _, h0 => h0
  | (n, k) :: r, cs, h, h0 => by
    refine clo_sub r _ (fun y hy => h y (List.mem_cons_of_mem _ hy)) fun x c e => ?_
    unfold cloF at e
    by_cases hk : k = .free
    · subst hk
      obtain ⟨c', hc'⟩ := h (n, .free) List.mem_cons_self rfl
      simp only [beq_self_eq_true, if_true] at e
      rw [lookup_cons_eq] at e
      have hc' : cells.lookup n = some c' := hc'
      by_cases hx : x = n
      · subst hx
        rw [if_pos rfl, hc'] at e
        rw [hc']
        exact e
      · rw [if_neg hx] at e
        exact h0 x c e
    · have hb : (k == NameKind.free) = false := by simpa using hk
      simp only [hb, Bool.false_eq_true, if_false] at e
      exact h0 x c e
theorem clo_some {cells : List (Str × Addr)} : ∀ (names : List (Str × NameKind)) (cs : List (Str × Addr)) (x : Str), ((x, NameKind.free) ∈ names ∨ ∃ c, cs.lookup x = some c) → ∃ c, (names.foldl (cloF cells) cs).lookup x = some c
  | [], cs, x, h => by
    rcases h with h | h
    · cases h
    · exact h
  | (n, k) :: r, cs, x, h => by
    refine clo_some r _ x ?_
    unfold cloF
    by_cases hk : k = .free
    · subst hk
      simp only [beq_self_eq_true, if_true]
      rw [lookup_cons_eq]
      by_cases hx : x = n
      · exact .inr ⟨_, if_pos hx⟩
      · rw [if_neg hx]
        rcases h with h | h
        · rcases List.mem_cons.mp h with h | h
          · exact absurd (congrArg Prod.fst h) hx
          · exact .inl h
        · exact .inr h
    · have hb : (k == NameKind.free) = false := by simpa using hk
      simp only [hb, Bool.false_eq_true, if_false]
      rcases h with h | h
      · rcases List.mem_cons.mp h with h | h
        · exact absurd (congrArg Prod.snd h).symm hk
        · exact .inl h
      · exact .inr h

structure LcOk (N : List Str) (osc sc : Scope) (Nc : List Str) (mp : List (Option Nat)) : Prop where
  kind : sc.kind = .function
  nocell : ∀ y ∈ sc.names, y.2 ≠ .cell
  names : ∀ y ∈ sc.names, y.2 = .local → sc.names.lookup y.1 = some .local
  free : ∀ y ∈ sc.names, y.2 = .free → osc.names.lookup y.1 = some .cell ∨ osc.names.lookup y.1 = some .free
  len : mp.length = Nc.length
  map : ∀ (i j : Nat), mp[i]? = some (some j) → ∃ x, Nc[i]? = some x ∧ N[j]? = some x ∧ sc.names.lookup x = some .free
def lcChk (N : List Str) (osc sc : Scope) (Nc : List Str) (mp : List (Option Nat)) : Bool :=
  decide (sc.kind = .function) && sc.names.all (fun y => !decide (y.2 = .cell) && (!decide (y.2 = .local) || decide (sc.names.lookup y.1 = some .local)) &&
    (!decide (y.2 = .free) || decide (osc.names.lookup y.1 = some .cell) || decide (osc.names.lookup y.1 = some .free))) &&
  decide (mp.length = Nc.length) && (List.range mp.length).all fun i => match mp[i]? with
    | some (some j) => match Nc[i]? with
      | some x => decide (N[j]? = some x) && decide (sc.names.lookup x = some .free)
      | none => false
    | _ => true
theorem LcOk.of {N : List Str} {osc sc : Scope} {Nc : List Str} {mp : List (Option Nat)} (h : lcChk N osc sc Nc mp = true) : LcOk N osc sc Nc mp := by
  unfold lcChk at h
  simp only [Bool.and_eq_true, decide_eq_true_eq, List.all_eq_true, Bool.or_eq_true, Bool.not_eq_true', decide_eq_false_iff_not] at h
  obtain ⟨⟨⟨h1, h2⟩, h3⟩, h4⟩ := h
  refine ⟨h1, fun y hy => (h2 y hy).1.1, fun y hy e => ?_, fun y hy e => ?_, h3, fun i j e => ?_⟩
  · rcases (h2 y hy).1.2 with q | q
    · exact absurd e q
    · exact q
  · rcases (h2 y hy).2 with (q | q) | q
    · exact absurd e q
    · exact .inl q
    · exact .inr q
  · have hi : i < mp.length := (List.getElem?_eq_some_iff.mp e).1
    have q := h4 i (List.mem_range.mpr hi)
    rw [e] at q
    cases hx : Nc[i]? with
    | none => rw [hx] at q; simp at q
    | some x =>
      rw [hx] at q
      simp only [Bool.and_eq_true, decide_eq_true_eq] at q
      exact ⟨x, rfl, q.1, q.2⟩
theorem lookup_map_free {f : Str × NameKind → Str × NameKind} (h1 : ∀ p, (f p).1 = p.1) (h2 : ∀ p, p.2 = .free → (f p).2 = .cell ∨ (f p).2 = .free) : ∀ {names : List (Str × NameKind)} {x : Str}, names.lookup x = some .free → (names.map f).lookup x = some .cell ∨ (names.map f).lookup x = some .free
  | [], _, h => by simp at h
  | (n, k) :: r, x, h => by
    have ih := @lookup_map_free f h1 h2 r x
    rw [List.map_cons]
    have q1 := h1 (n, k)
    have q2 := h2 (n, k)
    generalize f (n, k) = z at q1 q2
    obtain ⟨n', k'⟩ := z
    have q1' : n' = n := q1
    subst q1'
    cases hx : x == n' with
    | true =>
      rw [List.lookup_cons, hx] at h
      have hk : k = .free := by simpa using h
      rw [List.lookup_cons, hx]
      rcases q2 hk with e | e
      · have e' : k' = .cell := e
        subst e'
        exact .inl rfl
      · have e' : k' = .free := e
        subst e'
        exact .inr rfl
    | false =>
      rw [List.lookup_cons, hx] at h
      rw [List.lookup_cons, hx]
      exact ih h
theorem lookup_relabel_free {env : Env} {names : List (Str × NameKind)} {x : Str} (h : names.lookup x = some .free) :
    (names.map fun (n, k) => if (k == NameKind.free && env.scope.kind == .function && env.kindOf n == some .cell) then (n, NameKind.cell) else (n, k)).lookup x = some .cell ∨
    (names.map fun (n, k) => if (k == NameKind.free && env.scope.kind == .function && env.kindOf n == some .cell) then (n, NameKind.cell) else (n, k)).lookup x = some .free := by
  refine lookup_map_free (fun p => ?_) (fun p hp => ?_) h
  · obtain ⟨n, k⟩ := p
    dsimp only
    split <;> rfl
  · obtain ⟨n, k⟩ := p
    dsimp only
    split
    · exact .inl rfl
    · exact .inr hp
theorem relabel_has {env : Env} {names : List (Str × NameKind)} {x : Str} {k' : NameKind} (hc : ∀ y ∈ names, y.2 ≠ .cell) (hk : k' = .cell ∨ k' = .free)
    (h : (names.map fun (n, k) => if (k == NameKind.free && env.scope.kind == .function && env.kindOf n == some .cell) then (n, NameKind.cell) else (n, k)).lookup x = some k') : (x, NameKind.free) ∈ names := by
  have m := PySem.mem_of_lookup h
  obtain ⟨⟨n, k⟩, hm, e⟩ := List.mem_map.mp m
  dsimp only at e
  by_cases hf : k = .free
  · subst hf
    have e1 : n = x := by
      by_cases hc' : (NameKind.free == NameKind.free && env.scope.kind == .function && env.kindOf n == some .cell) = true
      · rw [if_pos hc'] at e
        exact congrArg Prod.fst e
      · rw [if_neg hc'] at e
        exact congrArg Prod.fst e
    exact e1 ▸ hm
  · have hb : (k == NameKind.free) = false := by simpa using hf
    simp only [hb, Bool.false_and, Bool.false_eq_true, if_false] at e
    cases e
    rcases hk with z | z
    · exact absurd z (hc _ hm)
    · exact absurd z hf

def cxLc (X : Cx) (scope : Scope) (Nc : List Str) (ex : List Addr) (pins : List (Addr × Obj)) (s : Shared) (H : Hp) : Cx where
  prog := X.prog
  w := X.w
  K := X.K
  mg := X.mg
  base := X.base
  A := X.A
  N := Nc
  s₀ := s
  H₀ := H
  env := compEnvC scope (clo scope.names X.env.cells) s.heap.objs.size X.env
  outer := X.stack
  stack := X.stack
  ex := ex
  fn := fun _ => false
  calm := X.calm
  pn := X.pn ++ pins
  xe := fun _ _ => False
def sub (mp : List (Option Nat)) (σ : St) : St := mp.map fun o => match o with | some j => (σ[j]?).join | none => none
theorem sub_get {mp : List (Option Nat)} {σ : St} {i : Nat} {v : V} (h : (sub mp σ)[i]? = some (some v)) : ∃ j, mp[i]? = some (some j) ∧ σ[j]? = some (some v) := by
  unfold sub at h
  rw [List.getElem?_map] at h
  cases e : mp[i]? with
  | none => rw [e] at h; cases h
  | some o =>
    rw [e] at h
    cases o with
    | none => cases h
    | some j =>
      refine ⟨j, rfl, ?_⟩
      have h' : (σ[j]?).join = some v := Option.some.inj h
      cases q : σ[j]? with
      | none => rw [q] at h'; cases h'
      | some z => rw [q] at h'; exact congrArg some h'

section
variable {X : Cx} {pins : List (Addr × Obj)} {σ : St} {H : Hp} {s : Shared} {scope : Scope} {Nc : List Str} {mp : List (Option Nat)} {fp : List Addr}
theorem lc_cells (I : Inv X pins σ H s) (S : LcOk X.N X.env.scope scope Nc mp) : ∀ x ∈ scope.names, x.2 = .free → ∃ c, X.env.cells.lookup x.1 = some c := fun x hx e =>
  I.ok.has x.1 (S.free x hx e)
theorem lc_sub (I : Inv X pins σ H s) (S : LcOk X.N X.env.scope scope Nc mp) {x : Str} {c : Addr} (h : (clo scope.names X.env.cells).lookup x = some c) : X.env.cells.lookup x = some c :=
  clo_sub scope.names [] (lc_cells I S) (fun _ _ e => by cases e) x c h
theorem lc_ok (I : Inv X pins σ H s) (S : LcOk X.N X.env.scope scope Nc mp) (hf : ∀ b ∈ fp, FpOk X pins H b) (hl : ∀ b ∈ fp, b < s.heap.objs.size) : (cxLc X scope Nc fp pins s H).Ok where
  mod := I.ok.mod
  kind := S.kind
  glob := I.ok.glob
  blt := I.ok.blt
  above := Nat.le_refl _
  inj := fun x y c e1 e2 => I.ok.inj x y c (lc_sub I S e1) (lc_sub I S e2)
  has := fun x h => by
    have hm : (x, NameKind.free) ∈ scope.names := by
      rcases h with h | h
      · exact relabel_has S.nocell (.inl rfl) h
      · exact relabel_has S.nocell (.inr rfl) h
    exact clo_some scope.names [] x (.inl hm)
  cab := fun x c h _ => by cases h
  hd := I.ok.hd
  frames := I.ok.frames
  stk := .inl rfl
  exf := fun b hb => ⟨Nat.ne_of_lt (hl b hb), fun x c e => (hf b hb).2.2.2.2.1 x c (lc_sub I S e)⟩
  bs := I.bs
  bsz := Nat.le_trans I.ok.bsz I.sz
  noex := fun b o e hb => by
    rcases (hf b hb).2.2.2.1 with z | z
    · exact I.ok.noex b o e z
    · exact absurd (Nat.lt_of_lt_of_le (Heap.lt_size e) (Nat.le_trans I.ok.bsz z)) (Nat.lt_irrefl _)
  exfs := fun b hb z => by
    rcases List.mem_cons.mp (I.stkSub b z) with e | e
    · exact (hf b hb).2.1 e
    · exact (hf b hb).2.2.1 e
  funs := I.stack
  frf := I.stkFree
theorem lc_start (I : Inv X pins σ H s) (S : LcOk X.N X.env.scope scope Nc mp) (hf : ∀ b ∈ fp, FpOk X pins H b) (hl : ∀ b ∈ fp, b < s.heap.objs.size) {h₁ : Heap} {m : Str → Option Value} {tk : Nat}
    (hn : h₁.Ns s.heap.objs.size m) (k : ∀ b o, s.heap.get? b = some o → h₁.get? b = some o) : Inv (cxLc X scope Nc fp pins s H) [] (sub mp σ) H { s with heap := h₁, toks := tk } := by
  refine ⟨lc_ok I S hf hl, rfl, I.bare, Un.kept k, ⟨m, hn, fun i x v e1 e2 _ => ?_⟩, fun x c e => ?_, I.hok.fresh (Nat.le_refl _), fun x c e => I.freeC x c (lc_sub I S e), fun p hp => ?_, I.hok.kept k, ?_⟩
  · obtain ⟨j, hj, hv⟩ := sub_get e2
    obtain ⟨y, y1, y2, y3⟩ := S.map i j hj
    have e1' : Nc[i]? = some x := e1
    rw [e1'] at y1
    cases y1
    have hm := PySem.mem_of_lookup y3
    have vis : Vis X.env.scope x := .inr (S.free _ hm rfl)
    obtain ⟨mo, _, hloc⟩ := I.loc
    obtain ⟨u, ru, lk⟩ := hloc j x v y2 hv vis
    refine ⟨u, ru, .inr ⟨lookup_relabel_free y3, ?_⟩⟩
    obtain ⟨c, hc⟩ := clo_some (cells := X.env.cells) scope.names [] x (.inl hm)
    have hc' := lc_sub I S hc
    rcases lk with ⟨z, _⟩ | ⟨_, c', z, q⟩
    · rcases S.free _ hm rfl with z' | z' <;> (have z'' : X.env.scope.names.lookup x = some .local := z; rw [z''] at z'; cases z')
    · rw [hc'] at z
      cases z
      obtain ⟨o, ho, hd⟩ := q
      exact ⟨c, hc, o, k c o ho, hd⟩
  · obtain ⟨v, o, ho, hd⟩ := I.cell x c (lc_sub I S e)
    exact ⟨v, o, k c o ho, hd⟩
  · have hp' : p ∈ X.pn ++ pins := by
      have : p ∈ (X.pn ++ pins) ++ [] := hp
      simpa using this
    obtain ⟨e, n, ne, nf, d⟩ := I.pin p hp'
    refine ⟨k _ _ e, n, Nat.ne_of_lt (Heap.lt_size e), fun z => ?_, d⟩
    rcases List.mem_cons.mp (I.stkSub p.1 z) with q | q
    · exact ne q
    · exact nf q
  · show (sub mp σ).length = Nc.length
    unfold sub
    rw [List.length_map]
    exact S.len
theorem lc_end (I : Inv X pins σ H s) (hf : ∀ b ∈ fp, FpOk X pins H b) {σ' : St} {H' : Hp} {s' : Shared} {pl : List (Addr × Obj)} (J : Inv (cxLc X scope Nc fp pins s H) pl σ' H' s') : Inv X pins σ H' s' :=
  I.call' J.os J.base J.hok J.bare fun b hb => ⟨(hf b hb).2.2.2.1, (hf b hb).2.1, (hf b hb).2.2.2.2.1, (hf b hb).2.2.2.2.2⟩
theorem Inv.turnedNew (I : Inv X pins σ H s) {C : Addr} {h' : Heap} {t' : Nat} (k : ∀ b o, b ≠ C → s.heap.get? b = some o → h'.get? b = some o) (hn : H C = none) (h1 : X.s₀.heap.objs.size ≤ C)
    (hL : C ≠ X.env.locals) (hc : ∀ x c, X.env.cells.lookup x = some c → c ≠ C) (hp : ∀ p ∈ X.pn ++ pins, p.1 ≠ C) : Inv X pins σ H { s with heap := h', toks := t' } :=
  I.turned k hn hL (.inr h1) hc hp
end

section
variable {M : Model} {A : Around} {E : Value → Shared → Prop}
abbrev Calm : Value → Shared → Prop := fun _ _ => False
theorem thenC {α β : Type} {m : Sem α} {f : α → Sem β} {P : α → Shared → Prop} {Q : β → Shared → Prop} {s : Shared} (h : wpAny M A m P Calm s) (k : ∀ x s', P x s' → wpAny M A (f x) Q E s') : wpAny M A (m >>= f) Q E s :=
  wpAny_bind (wpAny_mono h k fun _ _ z => z.elim)
end
theorem compLoop_calm {prog : Program} {w : World} {A : Around} {R : Result → Shared → Prop} {s : Shared} {e t i : Expr} {sc : Scope} {pos : Pos} {it acc : Value} {env : Env} (J : Nat → Shared → Prop)
    (turn : ∀ n s, J n s → wpAny (model prog w) A (pyNext it) (fun r s1 => (r = none → R (.ok .next) s1) ∧ ∀ v, r = some v →
      wpAny (model prog w) A (letOwnedTupleGo t it v) (fun _ s2 => wpAny (model prog w) A (assign t env v) (fun _ s3 => wpAny (model prog w) A (eval e env) (fun x s4 =>
        wpAny (model prog w) A (call (.builtin "list.append") [acc, x]) (fun _ s5 => ∃ m, m < n ∧ J m s5) Calm s4) Calm s3) Calm s2) Calm s1) Calm s)
    (n : Nat) (h : J n s) : codeAny (model prog w) A (.compLoop (.ListComp e [⟨t, i, [], 0⟩] sc pos) 0 it acc env) R s := by
  have eq := compTurn_list1 e t i sc pos it acc env
  refine codeAny_loop rfl J (fun n s j => wpAny_noted (m := compTurn (.ListComp e [⟨t, i, [], 0⟩] sc pos) 0 it acc env) ?_) n h
  rw [eq]
  refine wpAny_bind (wpAny_standAt (thenC (turn n s j) fun r s1 q => ?_))
  match r, q with
  | none, q => exact wpAny_pure (q.1 rfl)
  | some v, q => exact thenC (q.2 v rfl) fun _ s2 q2 => thenC q2 fun _ s3 q3 => wpAny_bind (thenC q3 fun x s4 q4 => thenC q4 fun _ s5 q5 => wpAny_pure (wpAny_pure ⟨rfl, q5⟩))

def LcW (J : It) (g : TG) (te : TE) (σ : St) (H : Hp) (acc : Addr) (Q : VK) : Prop := ∃ W : Nat → Nat → List V → St → Hp → Prop, (∃ m, W 0 m [] σ (upd H acc (.lst []))) ∧
  ∀ i m ys σ2 H2, W i m ys σ2 H2 → (J.stop i H2 ∧ Q (.ref acc) H2) ∨ (J.go i H2 ∧ ∀ x H3, J.yld i H2 x H3 → g x σ2 H3 fun σ4 H4 => te σ4 H4 fun y H5 =>
    H5 acc = some (.lst ys) ∧ ys.length < sizeLine ∧ ∃ m', m' < m ∧ W (i + 1) m' (ys ++ [y]) σ4 (upd H5 acc (.lst (ys ++ [y]))))
def tLc (mp : List (Option Nat)) (wi : TI) (g : TG) (te : TE) : TE := fun σ H Q => wi σ H fun J H1 => ∀ acc, H1 acc = none → LcW J g te (sub mp σ) H1 acc Q

section
variable {X : Cx} {elt tg iter : Expr} {scope : Scope} {pos : Pos} {wi : TI} {g : TG} {te : TE} {Nc : List Str} {mp : List (Option Nat)}
abbrev withList (s : Shared) : Shared := { s with heap := s.heap.push { cls := .type "list", dict := none, data := .seq ([] : List Value).toArray } }
theorem lc_run (hc : X.calm = true) (S : LcOk X.N X.env.scope scope Nc mp) (hg : ∀ ex pins s H, PG (cxLc X scope Nc ex pins s H) tg g) (he : ∀ ex pins s H, PE (cxLc X scope Nc ex pins s H) elt te)
    {pins : List (Addr × Obj)} {σ : St} {H2 : Hp} {s2 : Shared} {E : Value → Shared → Prop} {it : Addr} {fp : List Addr} {tn : Nat → Heap → Prop} {J : It} {Q : VK} {RR : Value → Addr → Result → Shared → Prop}
    (I2 : Inv X pins σ H2 s2) (T : Turn X.prog X.w X.K tg J fp it tn) (st2 : tn 0 s2.heap) (f2 : ∀ b ∈ fp, FpOk X pins H2 b)
    (q : ∀ acc, H2 acc = none → LcW J g te (sub mp σ) H2 acc Q)
    (fin : ∀ acc C H' s' m', Q (.ref acc) H' → Inv X pins σ H' s' → s'.heap.Ns C m' → H' C = none → X.s₀.heap.objs.size ≤ C → C ≠ X.env.locals → (∀ x c, X.env.cells.lookup x = some c → c ≠ C) → (∀ p ∈ X.pn ++ pins, p.1 ≠ C) → RR (.ref acc) C (.ok .next) s') :
    wpAny (model X.prog X.w) X.A (newList []) (fun acc s₃ => wpAny (model X.prog X.w) X.A (newFunctionEnv scope X.env.globals (clo scope.names X.env.cells) [] X.env.qual none .none (some X.env)) (fun cenv s₄ =>
      codeAny (model X.prog X.w) X.A (.compStart (.ListComp elt [⟨tg, iter, [], 0⟩] scope pos) 0 (.ref it) acc { cenv with scope := relabel scope X.env }) (RR acc cenv.locals) s₄) E s₃) E s2 := by
  refine wpAny_newObj_type (wpAny_newFunctionEnv S.nocell (by intro y hy; simp at hy) (fun h₁ hns₁ hsb₁ => ?_) S.kind)
  dsimp only at hns₁ hsb₁ ⊢
  have I3 := I2.lnew (its := []) (ys := []) (t' := s2.toks) .nil (Nat.zero_le _)
  have hacc : H2 s2.heap.objs.size = none := I2.fresh
  obtain ⟨W, ⟨m0, w0⟩, turn⟩ := q s2.heap.objs.size hacc
  have hpush : (s2.heap.push { cls := .type "list", dict := none, data := .seq ([] : List Value).toArray }).objs.size = s2.heap.objs.size + 1 := Heap.size_push ..
  have hlt : ∀ b ∈ fp, b < s2.heap.objs.size := fun b hb => by
    obtain ⟨o, e, _⟩ := T.obj _ _ st2 b hb
    exact Heap.lt_size e
  have f3 : ∀ b ∈ fp, FpOk X pins (upd H2 s2.heap.objs.size (.lst [])) b := fun b hb => ⟨by rw [upd_ne (Nat.ne_of_lt (hlt b hb))]; exact (f2 b hb).1, (f2 b hb).2⟩
  have I3' : Inv X pins σ (upd H2 s2.heap.objs.size (.lst [])) (withList s2) := I3
  have hsz : (withList s2).heap.objs.size = s2.heap.objs.size + 1 := hpush
  have hlt3 : ∀ b ∈ fp, b < (withList s2).heap.objs.size := fun b hb => by rw [hsz]; exact Nat.lt_succ_of_lt (hlt b hb)
  have k3 : ∀ b o, (withList s2).heap.get? b = some o → h₁.get? b = some o := fun b o e => hsb₁.extBut b o (Nat.ne_of_lt (Heap.lt_size e)) (Heap.get?_push_of_some _ e)
  have Ic := lc_start (tk := (withList s2).toks) I3' S f3 hlt3 hns₁ k3
  have st3 : tn 0 h₁ := T.keep _ _ _ st2 fun b hb o e => k3 b o (Heap.get?_push_of_some _ e)
  -- what the block's frame is to the def
  have cC : X.s₀.heap.objs.size ≤ (withList s2).heap.objs.size := I3'.sz
  have cL : (withList s2).heap.objs.size ≠ X.env.locals := Nat.ne_of_gt I3'.lt
  have cc : ∀ x c, X.env.cells.lookup x = some c → c ≠ (withList s2).heap.objs.size := fun x c e => by
    obtain ⟨v, o, ho, _⟩ := I3'.cell x c e
    exact Nat.ne_of_lt (Heap.lt_size ho)
  have cp : ∀ p ∈ X.pn ++ pins, p.1 ≠ (withList s2).heap.objs.size := fun p hp => Nat.ne_of_lt (Heap.lt_size (I3'.pin p hp).1)
  have stat : ∀ {H' : Hp}, (∀ b ∈ fp, H' b = none) → ∀ b ∈ fp, FpOk (cxLc X scope Nc fp pins (withList s2) (upd H2 s2.heap.objs.size (.lst []))) [] H' b := fun hn b hb =>
    ⟨hn b hb, Nat.ne_of_lt (hlt3 b hb), fun z => by
      rcases List.mem_cons.mp (I3'.stkSub b z) with e | e
      · exact (f3 b hb).2.1 e
      · exact (f3 b hb).2.2.1 e, .inl hb, fun x c e => (f3 b hb).2.2.2.2.1 x c (lc_sub I3' S e), fun p hp => (f3 b hb).2.2.2.2.2 p (by
        have : p ∈ (X.pn ++ pins) ++ [] := hp
        simpa using this)⟩
  have loop : ∀ s4 : Shared, s4 = { (withList s2) with heap := h₁, toks := (withList s2).toks } →
      codeAny (model X.prog X.w) X.A (.compLoop (.ListComp elt [⟨tg, iter, [], 0⟩] scope pos) 0 (.ref it) (.ref s2.heap.objs.size) (cxLc X scope Nc fp pins (withList s2) (upd H2 s2.heap.objs.size (.lst []))).env)
        (RR (.ref s2.heap.objs.size) (withList s2).heap.objs.size) s4 := by
    rintro s4 rfl
    refine compLoop_calm (fun n s' => ∃ i ys σ' H', Inv (cxLc X scope Nc fp pins (withList s2) (upd H2 s2.heap.objs.size (.lst []))) [] σ' H' s' ∧ tn i s'.heap ∧ (∀ b ∈ fp, H' b = none) ∧ W i n ys σ' H') ?_ m0
      ⟨0, [], sub mp σ, _, Ic, st3, fun b hb => (f3 b hb).1, w0⟩
    rintro n s5 ⟨i, ys, σ5, H5, I5, st5, fr5, w5⟩
    rcases turn i n ys σ5 H5 w5 with ⟨stop, qn⟩ | ⟨go, step⟩
    · refine wpAny_mono (T.done (cxLc X scope Nc fp pins (withList s2) (upd H2 s2.heap.objs.size (.lst []))) rfl rfl rfl hc i [] s5 σ5 H5 (fun _ _ => False) I5 (stat fr5) st5 stop) (fun r s6 ⟨hr, I6⟩ => ?_) fun _ _ f => f.elim
      subst hr
      obtain ⟨m6, hn6, _⟩ := I6.loc
      refine ⟨fun _ => ?_, fun _ z => nomatch z⟩
      exact fin _ _ H5 s6 m6 qn (lc_end I3' f3 I6) hn6 I6.free cC cL cc cp
    · refine wpAny_mono (T.item (cxLc X scope Nc fp pins (withList s2) (upd H2 s2.heap.objs.size (.lst []))) rfl rfl rfl hc i [] s5 σ5 H5 (fun _ _ => False) I5 (stat fr5) st5 go) (fun r s6 ⟨u, hr, h6⟩ => ?_) fun _ _ f => f.elim
      subst hr
      refine ⟨(fun z => by cases z), ?_⟩
      rintro _ ⟨⟩
      refine wpAny_mono h6 (fun _ s7 ⟨x, H7, I7, r7, y7, st7, fr7⟩ => ?_) fun _ _ f => f.elim
      have I7' := I7.pinned (stat fr7) (T.obj _ _ st7)
      refine wpAny_mono (hg _ _ _ _ _ s7 σ5 H7 x u _ I7' r7 (step x H7 y7)) (fun _ s8 ⟨σ8, H8, I8, q8⟩ => ?_) fun _ _ f => f.elim
      refine wpAny_mono (he _ _ _ _ _ s8 σ8 H8 _ I8 q8) (fun v s9 ⟨y, H9, I9, r9, a9, l9, m', hm', w9⟩ => ?_) fun _ _ f => f.elim
      refine wpAny_mono (mt_append (X := cxLc X scope Nc fp pins (withList s2) (upd H2 s2.heap.objs.size (.lst []))) _ s9 σ8 H9 (.ref s2.heap.objs.size) [y] (.ref s2.heap.objs.size) [v] (fun z Hz => z = .non ∧ Hz = upd H9 s2.heap.objs.size (.lst (ys ++ [y]))) I9 rfl (.cons r9 .nil) ⟨_, ys, y, rfl, rfl, a9, l9, rfl, rfl⟩) (fun v10 s10 ⟨z, H10, I10, _, _, e10⟩ => ?_) fun _ _ f => f.elim
      subst e10
      refine ⟨m', hm', i + 1, ys ++ [y], σ8, _, I10.unpinned, T.keep _ _ _ st7 fun b hb o e => (I10.pin (b, o) (List.mem_append_right _ (List.mem_append_right _ (mem_pinsAt hb e)))).1, fun b hb => ?_, w9⟩
      obtain ⟨o, e, d⟩ := T.obj _ _ st7 b hb
      exact (I10.pin (b, o) (List.mem_append_right _ (List.mem_append_right _ (mem_pinsAt hb e)))).2.1
  exact codeAny_compStart_list (loop _ rfl) (T.self _ 0 _ _ _ st3 (loop _ rfl))
theorem pe_lc (hc : X.calm = true) (S : LcOk X.N X.env.scope scope Nc mp) (hi : PI X tg iter wi) (hg : ∀ ex pins s H, PG (cxLc X scope Nc ex pins s H) tg g) (he : ∀ ex pins s H, PE (cxLc X scope Nc ex pins s H) elt te)
    (hf : ∀ x, foldedSetIterable iter X.env x = pure x := by intro _; rfl) : PE X (.ListComp elt [⟨tg, iter, [], 0⟩] scope pos) (tLc mp wi g te) := by
  intro pins s σ H Q I h
  rw [eval_ListComp]
  refine wpAny_comprehension_free (use := none) rfl hf (closure_eq (lc_cells I S)) S.kind S.names (thn (hi pins s σ H _ I h) fun v s1 h1 => thn h1 fun itv s2 h2 => ?_)
  obtain ⟨it, fp, tn, J, H2, e, I2, T, st2, f2, q⟩ := h2
  subst e
  refine lc_run (RR := fun acc C => compPost (model X.prog X.w) X.A X.xe none (EP X pins σ Q) acc C) hc S hg he I2 T st2 f2 q ?_
  intro acc C H' s' m' qq I' hn hC c1 c2 c3 c4
  refine ⟨m', hn, fun h' hs => ⟨.ref acc, H', ?_, rfl, qq⟩⟩
  exact I'.turnedNew (t' := s'.toks) (fun b o hb e => hs.extBut b o hb e) hC c1 c2 c3 c4
theorem ps_setLc {i : Nat} {x : Str} {pos' spos : Pos} (hc : X.calm = true) (hN : X.N.Nodup) (hi' : X.N[i]? = some x) (hx : X.env.scope.names.lookup x = some .local) (S : LcOk X.N X.env.scope scope Nc mp) (hi : PI X tg iter wi)
    (hg : ∀ ex pins s H, PG (cxLc X scope Nc ex pins s H) tg g) (he : ∀ ex pins s H, PE (cxLc X scope Nc ex pins s H) elt te)
    (hsw : swapsWith (.ListComp elt [⟨tg, iter, [], 0⟩] scope pos) (some (.Name x pos')) spos.line X.env = pure true)
    (hf : ∀ x, foldedSetIterable iter X.env x = pure x := by intro _; rfl) : PS X (.Assign [.Name x pos'] (.ListComp elt [⟨tg, iter, [], 0⟩] scope pos) spos) (tAsg (tLc mp wi g te) (gName i)) := by
  intro pins s σ H D I h
  rw [exec_Assign_Name_used _ _ _ _ hsw]
  refine wpAny_bind (wpAny_standAt (wpAny_bind ?_))
  show wpAny _ X.A (do let _ ← comprehension (.ListComp elt [⟨tg, iter, [], 0⟩] scope pos) scope X.env _ (newList []) false (eval iter X.env) (some (assign (.Name x pos') X.env))) _ _ s
  refine wpAny_bind (wpAny_mono (wpAny_comprehension_free (use := some (assign (.Name x pos') X.env)) (Q := fun _ s' => SP X pins D .next s') rfl hf (closure_eq (lc_cells I S)) S.kind S.names
    (thn (hi pins s σ H _ I h) fun v s1 h1 => thn h1 fun itv s2 h2 => ?_)) (fun _ s' hq => wpAny_pure (wpAny_pure hq)) fun _ _ e => e)
  obtain ⟨it, fp, tn, J, H2, e, I2, T, st2, f2, q⟩ := h2
  subst e
  refine lc_run (Q := fun x H1 => gName i x σ H1 D.nx) (RR := fun acc C => compPost (model X.prog X.w) X.A X.xe (some (assign (.Name x pos') X.env)) (fun _ s' => SP X pins D .next s') acc C) hc S hg he I2 T st2 f2 q ?_
  intro acc C H' s' m' qq I' hn hC c1 c2 c3 c4
  show wpAny _ X.A (assign (.Name x pos') X.env (.ref acc)) _ _ _
  refine wpAny_assign_Name (store_ok2 (v := .ref acc) I' hN hi' (.inl hx) rfl (fun s5 I5 ⟨a, hs5, ha⟩ => ?_) (.inr hx))
  have hCa : C ≠ a := by
    rcases ha with z | z
    · rw [z]; exact c2
    · exact Ne.symm (c3 x a z)
  refine ⟨m', hn.sameBut hs5 hCa, fun h' hs => ⟨σ.set i (some (.ref acc)), H', ?_, qq⟩⟩
  exact I5.turnedNew (t' := s5.toks) (fun b o hb e => hs.extBut b o hb e) hC c1 c2 c3 c4
end

/-! ### the forms one uses: the block's own name first -/
theorem lc_by {J : It} {n : Nat} {val : Nat → V} {te : TE} {fr : St} {H1 : Hp} {acc : Addr} {Q : VK} (Pv : Nat → List V → Hp → Prop) (hn : n ≤ sizeLine) (h0 : Pv 0 [] (upd H1 acc (.lst [])))
    (hgo : ∀ i ys H, i < n → Pv i ys H → J.go i H ∧ ∀ x H', J.yld i H x H' → H' = H ∧ x = val i) (hst : ∀ ys H, Pv n ys H → J.stop n H)
    (hs : ∀ i ys H (N : V → Hp → Prop), i < n → ys.length = i → Pv i ys H → (∀ y H5, H5 acc = some (.lst ys) → Pv (i + 1) (ys ++ [y]) (upd H5 acc (.lst (ys ++ [y]))) → N y H5) → te (some (val i) :: fr) H N)
    (hd : ∀ ys H, ys.length = n → Pv n ys H → Q (.ref acc) H) :
    LcW (J) (gName 0) te (none :: fr) H1 acc Q := by
  refine ⟨fun i m ys σ2 H2 => m = n - i ∧ i ≤ n ∧ ys.length = i ∧ (∃ v, σ2 = v :: fr) ∧ Pv i ys H2, ⟨n, by simp, Nat.zero_le _, rfl, ⟨_, rfl⟩, h0⟩, ?_⟩
  rintro i m ys σ2 H2 ⟨rfl, hi, hl, ⟨v, rfl⟩, p⟩
  by_cases hlt : i < n
  · obtain ⟨go, yl⟩ := hgo i ys H2 hlt p
    refine .inr ⟨go, fun x H3 y3 => ?_⟩
    obtain ⟨e1, e2⟩ := yl x H3 y3
    subst e1 e2
    show te ((v :: fr).set 0 (some (val i))) H3 _
    rw [List.set_cons_zero]
    refine hs i ys H3 _ hlt hl p fun y H5 a5 p5 => ⟨a5, by omega, n - (i + 1), by omega, rfl, hlt, by rw [List.length_append, hl]; rfl, ⟨_, rfl⟩, p5⟩
  · have e : i = n := by omega
    subst e
    exact .inl ⟨hst ys H2 p, hd ys H2 hl p⟩
theorem lc_range {lo : Int} {n : Nat} {te : TE} {fr : St} {H1 : Hp} {acc : Addr} {Q : VK} (Pv : Nat → List V → Hp → Prop) (hn : n ≤ sizeLine) (h0 : Pv 0 [] (upd H1 acc (.lst [])))
    (hs : ∀ i ys H (N : V → Hp → Prop), i < n → ys.length = i → Pv i ys H → (∀ y H5, H5 acc = some (.lst ys) → Pv (i + 1) (ys ++ [y]) (upd H5 acc (.lst (ys ++ [y]))) → N y H5) → te (some (.int (lo + i)) :: fr) H N)
    (hd : ∀ ys H, ys.length = n → Pv n ys H → Q (.ref acc) H) :
    LcW (Itr lo n) (gName 0) te (none :: fr) H1 acc Q :=
  lc_by (J := Itr lo n) (val := fun i => .int (lo + i)) Pv hn h0 (fun i ys H hi p => ⟨hi, fun x H' y => y⟩) (fun ys H p => Nat.le_refl _) hs hd
theorem lc_list {K : PySem.W.Frag} {a : Addr} {xs : List V} {te : TE} {fr : St} {H1 : Hp} {acc : Addr} {Q : VK} (Pv : Nat → List V → Hp → Prop) (hn : xs.length ≤ sizeLine) (h0 : Pv 0 [] (upd H1 acc (.lst [])))
    (hl : ∀ i ys H, Pv i ys H → SqL K H a xs)
    (hs : ∀ i x ys H (N : V → Hp → Prop), xs[i]? = some x → ys.length = i → Pv i ys H → (∀ y H5, H5 acc = some (.lst ys) → Pv (i + 1) (ys ++ [y]) (upd H5 acc (.lst (ys ++ [y]))) → N y H5) → te (some x :: fr) H N)
    (hd : ∀ ys H, ys.length = xs.length → Pv xs.length ys H → Q (.ref acc) H) :
    LcW (Itl K a) (gName 0) te (none :: fr) H1 acc Q :=
  lc_by (J := Itl K a) (n := xs.length) (val := fun i => xs.getD i .non) Pv hn h0
    (fun i ys H hi p => ⟨⟨xs, xs[i], hl i ys H p, by simp [hi]⟩, fun x H' y => ⟨y.1, by
      have := y.2 xs (hl i ys H p)
      rw [List.getD_eq_getElem?_getD, this]; rfl⟩⟩)
    (fun ys H p => ⟨xs, hl _ ys H p, Nat.le_refl _⟩)
    (fun i ys H N hi hl' p k => by
      have e : xs[i]? = some (xs.getD i .non) := by rw [List.getD_eq_getElem?_getD, List.getElem?_eq_getElem hi]; rfl
      exact hs i _ ys H N e hl' p k) hd
end L2

set_option maxHeartbeats 4000000
/-! short words: callees, tests, sizes -/
namespace L2
open PySem PySem.Spec PyProof.Rows

structure Cal (P : Program) (w : World) (K : PySem.W.Frag) (mg : Str → Option Value) (base : Heap) (k : Nat) (x : Str) (ps : List Str) (sp : Sp) : Prop where
  ex : ∃ f fd, FnOk P w K mg base CX0 k f fd ps sp ∧ Binds K fd ps [] ∧ PySem.W.keepIn K (.ref f) = true ∧ mg x = some (.ref f)
theorem Cal.mono {P : Program} {w : World} {K : PySem.W.Frag} {mg : Str → Option Value} {base : Heap} {j k : Nat} {x : Str} {ps : List Str} {sp : Sp} (c : Cal P w K mg base j x ps sp) (h : j ≤ k) : Cal P w K mg base k x ps sp :=
  let ⟨f, fd, F, b, kp, m⟩ := c.ex
  ⟨f, fd, F.mono h, b, kp, m⟩
section
variable {X : Cx} {k : Nat} {x : Str} {ps : List Str} {sp : Sp} {p pos : Pos} {e : Expr} {es : List Expr} {t : TA}
theorem pe_cal (c : Cal X.prog X.w X.K X.mg X.base k x ps sp) (hr : Room k X.A) (hg : Gl X x) (ha : PA X (e :: es) t) (hdb : (x == ("__debug__" : Str)) = false := by decide)
    (he : starEach (e :: es) X.env = (false, eval e X.env) :: starEach es X.env := by rfl) (hpl : (backTo pos (starEach es X.env)).any (·.1) = false := by rfl) : PE X (.Call (.Name x p) (e :: es) [] pos) (tCall sp [] E0 t) := by
  obtain ⟨f, fd, F, b, kp, m⟩ := c.ex
  exact pe_call F hr hg m kp b .nil pass0 ha hdb he hpl
end

structure FunAt (K : PySem.W.Frag) (x : Str) (st : Stmt) (dV : Value) : Prop where
  ex : ∃ (f : Addr) (oc : Value) (od : Option Addr) (kV doc pm : Value) (an : Option Addr) (cdv ct : Value) (osl : Array (Option Value)),
    K.lookup f = some ⟨oc, od, .func (PySem.W.fnOf x x (defArgs st) (defBody st) (defScope st) dV kV doc pm an cdv ct), osl⟩ ∧ PySem.W.codeIn K cdv x = true ∧ PySem.W.keepIn K (.ref f) = true ∧ PySem.W.nsIn K mainGlobals x = some (some (.ref f))
theorem fat {K : PySem.W.Frag} {x : Str} {st : Stmt} {f : Addr} {oc : Value} {od an : Option Addr} {osl : Array (Option Value)} {dV kV doc pm cdv ct : Value} (a : PySem.W.nsIn K mainGlobals x = some (some (.ref f)))
    (l : K.lookup f = some ⟨oc, od, .func (PySem.W.fnOf x x (defArgs st) (defBody st) (defScope st) dV kV doc pm an cdv ct), osl⟩) (c : PySem.W.codeIn K cdv x = true) (k : PySem.W.keepIn K (.ref f) = true) : FunAt K x st dV :=
  ⟨f, oc, od, kV, doc, pm, an, cdv, ct, osl, l, c, k, a⟩
def BindsAll (K : PySem.W.Frag) (x : Str) (st : Stmt) (dV : Value) (ps : List Str) : Prop := ∀ (kV doc pm : Value) (an : Option Addr) (cdv ct : Value), Binds K (PySem.W.fnOf x x (defArgs st) (defBody st) (defScope st) dV kV doc pm an cdv ct) ps []
theorem binds0 {K : PySem.W.Frag} {x : Str} {st : Stmt} {ps : List Str}
    (h : ∀ (kV doc pm : Value) (an : Option Addr) (cdv ct : Value) (us : List Value), us.length = ps.length → bindArgs (PySem.W.fnOf x x (defArgs st) (defBody st) (defScope st) .none kV doc pm an cdv ct) ⟨us, []⟩ = pure (ps.zip us)) : BindsAll K x st .none ps :=
  fun kV doc pm an cdv ct => .all (h kV doc pm an cdv ct)
theorem bnd0 {K : PySem.W.Frag} {nm : Str} {st : Stmt} (h : ∀ (kV doc pm : Value) (an : Option Addr) (cdv ct : Value), bindArgs (PySem.W.fnOf nm nm (defArgs st) (defBody st) (defScope st) .none kV doc pm an cdv ct) ⟨[], []⟩ = pure []) : BindsAll K nm st .none [] := binds0 fun kV doc pm an cdv ct us hl => by
  cases us with
  | nil => exact h kV doc pm an cdv ct
  | cons => cases hl
theorem bnd1 {K : PySem.W.Frag} {nm : Str} {st : Stmt} {x0 : Str} (h : ∀ (kV doc pm : Value) (an : Option Addr) (cdv ct : Value) (a0 : Value), bindArgs (PySem.W.fnOf nm nm (defArgs st) (defBody st) (defScope st) .none kV doc pm an cdv ct) ⟨[a0], []⟩ = pure [(x0, a0)]) : BindsAll K nm st .none [x0] := binds0 fun kV doc pm an cdv ct us hl => by
  cases us with
  | nil => cases hl
  | cons b0 t0 =>
    cases t0 with
    | nil => exact h kV doc pm an cdv ct b0
    | cons => cases hl
theorem bnd2 {K : PySem.W.Frag} {nm : Str} {st : Stmt} {x0 x1 : Str} (h : ∀ (kV doc pm : Value) (an : Option Addr) (cdv ct : Value) (a0 a1 : Value), bindArgs (PySem.W.fnOf nm nm (defArgs st) (defBody st) (defScope st) .none kV doc pm an cdv ct) ⟨[a0, a1], []⟩ = pure [(x0, a0), (x1, a1)]) : BindsAll K nm st .none [x0, x1] := binds0 fun kV doc pm an cdv ct us hl => by
  cases us with
  | nil => cases hl
  | cons b0 t0 =>
    cases t0 with
    | nil => cases hl
    | cons b1 t1 =>
      cases t1 with
      | nil => exact h kV doc pm an cdv ct b0 b1
      | cons => cases hl
theorem bnd3 {K : PySem.W.Frag} {nm : Str} {st : Stmt} {x0 x1 x2 : Str} (h : ∀ (kV doc pm : Value) (an : Option Addr) (cdv ct : Value) (a0 a1 a2 : Value), bindArgs (PySem.W.fnOf nm nm (defArgs st) (defBody st) (defScope st) .none kV doc pm an cdv ct) ⟨[a0, a1, a2], []⟩ = pure [(x0, a0), (x1, a1), (x2, a2)]) : BindsAll K nm st .none [x0, x1, x2] := binds0 fun kV doc pm an cdv ct us hl => by
  cases us with
  | nil => cases hl
  | cons b0 t0 =>
    cases t0 with
    | nil => cases hl
    | cons b1 t1 =>
      cases t1 with
      | nil => cases hl
      | cons b2 t2 =>
        cases t2 with
        | nil => exact h kV doc pm an cdv ct b0 b1 b2
        | cons => cases hl
theorem bnd4 {K : PySem.W.Frag} {nm : Str} {st : Stmt} {x0 x1 x2 x3 : Str} (h : ∀ (kV doc pm : Value) (an : Option Addr) (cdv ct : Value) (a0 a1 a2 a3 : Value), bindArgs (PySem.W.fnOf nm nm (defArgs st) (defBody st) (defScope st) .none kV doc pm an cdv ct) ⟨[a0, a1, a2, a3], []⟩ = pure [(x0, a0), (x1, a1), (x2, a2), (x3, a3)]) : BindsAll K nm st .none [x0, x1, x2, x3] := binds0 fun kV doc pm an cdv ct us hl => by
  cases us with
  | nil => cases hl
  | cons b0 t0 =>
    cases t0 with
    | nil => cases hl
    | cons b1 t1 =>
      cases t1 with
      | nil => cases hl
      | cons b2 t2 =>
        cases t2 with
        | nil => cases hl
        | cons b3 t3 =>
          cases t3 with
          | nil => exact h kV doc pm an cdv ct b0 b1 b2 b3
          | cons => cases hl
theorem bnd5 {K : PySem.W.Frag} {nm : Str} {st : Stmt} {x0 x1 x2 x3 x4 : Str} (h : ∀ (kV doc pm : Value) (an : Option Addr) (cdv ct : Value) (a0 a1 a2 a3 a4 : Value), bindArgs (PySem.W.fnOf nm nm (defArgs st) (defBody st) (defScope st) .none kV doc pm an cdv ct) ⟨[a0, a1, a2, a3, a4], []⟩ = pure [(x0, a0), (x1, a1), (x2, a2), (x3, a3), (x4, a4)]) : BindsAll K nm st .none [x0, x1, x2, x3, x4] := binds0 fun kV doc pm an cdv ct us hl => by
  cases us with
  | nil => cases hl
  | cons b0 t0 =>
    cases t0 with
    | nil => cases hl
    | cons b1 t1 =>
      cases t1 with
      | nil => cases hl
      | cons b2 t2 =>
        cases t2 with
        | nil => cases hl
        | cons b3 t3 =>
          cases t3 with
          | nil => cases hl
          | cons b4 t4 =>
            cases t4 with
            | nil => exact h kV doc pm an cdv ct b0 b1 b2 b3 b4
            | cons => cases hl
section
variable {P : Program} {w : World} {K : PySem.W.Frag} {mg : Str → Option Value} {base : Heap}
theorem FunAt.cal {x : Str} {st : Stmt} {dV : Value} {N ps : List Str} {k : Nat} {sp : Sp} (F : FunAt K x st dV) {h : Heap} (X : K.In h) (G : h.Ns mainGlobals mg) (S : FnScope N ps (defScope st)) (bi : BindsAll K x st dV ps) (len : ∀ vs H Q E, sp vs H Q E → vs.length = ps.length)
    (hbody : ∀ (f : Addr) (cdv : Value) (A : Around) (outer : List Env) (s : Shared) (H : Hp) (vs : List V) (Q : VK) (E : XK), Room k (A.deeper (envOfC x (defScope st) s.heap.objs.size f cdv)) → sp vs H Q E →
      ∃ t, PSs (cxOf CX0 P w K mg base N x (defScope st) f cdv A outer s H E).nox (defBody st) t ∧ t { nx := fun _ H' => Q .non H', rt := Q } (start N vs) H) : Cal P w K mg base (k + 1) x ps sp := by
  obtain ⟨f, oc, od, kV, doc, pm, an, cdv, ct, osl, lk, hcd, kp, ns⟩ := F.ex
  refine ⟨f, _, fn_of lk hcd S len fun A outer s H vs Q E hr hsp => ?_, bi kV doc pm an cdv ct, kp, PySem.W.mg_of X G ns⟩
  obtain ⟨t, h, q⟩ := hbody f cdv A outer s H vs Q E hr hsp
  exact ⟨t, h.nox, q⟩
end
theorem cxK {P : Program} {w : World} {K : PySem.W.Frag} {mg : Str → Option Value} {base : Heap} {N : List Str} {x : Str} {sc : Scope} {f : Addr} {cdv : Value} {A : Around} {outer : List Env} {s : Shared} {H : Hp} {E : XK} : (cxOf CX0 P w K mg base N x sc f cdv A outer s H E).nox.K = K := rfl
theorem same_new {H : Hp} {p : Addr} (h : H p = none) (o : HO) : Same H (upd H p o) := fun b u q => by rw [upd_ne (ne_of_none q h)]; exact q

/-! ### classes of values -/
theorem kit_ii (K : PySem.W.Frag) : PySem.W.kitOne K (.type "int") (.type "int") = some true := by unfold PySem.W.kitOne; rw [if_pos (by decide)]
theorem kit_ib (K : PySem.W.Frag) : PySem.W.kitOne K (.type "int") (.type "bool") = some false := by with_unfolding_all rfl

/-! ### tests over ints -/
theorem eqI {a b : Int} {A B : Prop} (h1 : a = b → A) (h2 : a ≠ b → B) : if decide (V.int a = V.int b) = true then A else B := by
  by_cases h : a = b
  · subst h
    rw [decide_eq_true rfl]
    exact iteT (h1 rfl)
  · rw [decide_eq_false fun e => h (V.int.inj e)]
    exact iteF (h2 h)
theorem neI {a b : Int} {A B : Prop} (h1 : a ≠ b → A) (h2 : a = b → B) : if (!decide (V.int a = V.int b)) = true then A else B := by
  by_cases h : a = b
  · subst h
    rw [decide_eq_true rfl]
    exact iteF (h2 rfl)
  · rw [decide_eq_false fun e => h (V.int.inj e)]
    exact iteT (h1 h)
theorem decI {p : Prop} [Decidable p] {A B : Prop} (h1 : p → A) (h2 : ¬ p → B) : if decide p = true then A else B := by
  by_cases h : p
  · rw [decide_eq_true h]; exact iteT (h1 h)
  · rw [decide_eq_false h]; exact iteF (h2 h)
theorem blI {c : Bool} {A B : Prop} (h1 : c = true → A) (h2 : c = false → B) : if c = true then A else B := by
  cases c
  · exact iteF (h2 rfl)
  · exact iteT (h1 rfl)
theorem nblI {c : Bool} {A B : Prop} (h1 : c = false → A) (h2 : c = true → B) : if (!c) = true then A else B := by
  cases c
  · exact iteT (h1 rfl)
  · exact iteF (h2 rfl)
/-! ### a statement with its own aim: what follows is shown once -/
def tCut (t u : TS) : TS := fun D σ H => ∃ Good : St → Hp → Prop, t { D with nx := Good } σ H ∧ ∀ σ' H', Good σ' H' → u D σ' H'
theorem pss_cut {X : Cx} {st : Stmt} {rest : List Stmt} {t u : TS} (h1 : PS X st t) (h2 : PSs X rest u) : PSs X (st :: rest) (tCut t u) := by
  intro pins s σ H D I h
  obtain ⟨Good, ht, hu⟩ := h
  refine wpAny_execs_cons (thn (h1 pins s σ H { D with nx := Good } I ht) fun f s1 q => ?_)
  cases f with
  | next =>
    obtain ⟨σ', H', I', q⟩ := q
    exact h2 pins s1 σ' H' D I' (hu σ' H' q)
  | ret v => exact q
  | brk => exact q
  | cont => exact q
theorem same_upd {H H' : Hp} {p : Addr} {o : HO} (h : Same H H') (hn : H p = none) : Same H (upd H' p o) := fun b u q => by rw [upd_ne (ne_of_none q hn)]; exact h b u q
end L2

set_option maxHeartbeats 4000000
/-! zip of two lists or tuples: its draws are told by what they do, not by what they are -/
namespace Zo
open PySem PySem.Spec PyProof.Rows
open Sem (wp)
def Stop (h : Heap) (e : Addr) : Prop := ∃ o, h.get? e = some o ∧ o.cls = .type "StopIteration"
def Rest (S : List Addr) (h h' : Heap) : Prop := ∀ c o, c ∉ S → h.get? c = some o → h'.get? c = some o
theorem Rest.trans {S : List Addr} {h h1 h2 : Heap} (a : Rest S h h1) (b : Rest S h1 h2) : Rest S h h2 := fun c o n e => b c o n (a c o n e)
theorem Rest.sub {S T : List Addr} {h h1 : Heap} (a : Rest S h h1) (q : ∀ c, c ∈ S → c ∈ T) : Rest T h h1 := fun c o n e => a c o (fun z => n (q c z)) e
theorem Rest.ext {S : List Addr} {h h1 : Heap} {b : Addr} (e : Heap.ExtBut b h h1) (q : b ∈ S) : Rest S h h1 := fun c o n x => e c o (fun z => n (z ▸ q)) x
theorem Rest.but {S : List Addr} {h h1 : Heap} {b : Addr} (e : Heap.SameBut b h h1) (q : b ∈ S) : Rest S h h1 := Rest.ext e.extBut q
theorem Rest.new {S : List Addr} {h : Heap} (o : Obj) : Rest S h (h.push o) := fun c u n x => Heap.get?_push_of_some _ x
def Stays (S : List Addr) (G : Heap → Prop) : Prop := ∀ h h', Rest S h h' → G h → G h'
def Told (it : Addr) (hp : Heap) (g : Array GenState) (d : Drawn) (tk : Nat) (os : OsState) (G : Heap → Prop) (ox : Option Value) (Q E : Value → Shared → Prop) : Prop :=
  (∀ x h', ox = some x → G h' → Heap.SameBut it hp h' → Q x ⟨h', g, d, tk, os⟩) ∧
  (∀ e h', ox = none → Heap.ExtBut it hp h' → Stop h' e → E (.ref e) ⟨h', g, d, tk, os⟩)
def Pull (prog : Program) (w : World) (A : Around) (it : Addr) (G G' : Heap → Prop) (ox : Option Value) : Prop :=
  ∀ {Q E : Value → Shared → Prop} {hp : Heap} {g : Array GenState} {d : Drawn} {tk : Nat} {os : OsState}, G hp → Told it hp g d tk os G' ox Q E →
    wpAny (model prog w) A (Builtin.SmallTypes.nextOf (.ref it)) Q E ⟨hp, g, d, tk, os⟩
section
variable {prog : Program} {w : World} {A : Around} {E : Value → Shared → Prop} {hp : Heap} {g : Array GenState} {d : Drawn} {tk : Nat} {os : OsState}
theorem Pull.behind {it : Addr} {G G' : Heap → Prop} {ox : Option Value} (p : Pull prog w A it G G' ox) (hg : G hp) {α : Type} {f : Value → Sem α} {k : Value → Sem Unit} {Q : α → Shared → Prop}
    (t : Told it hp g d tk os G' ox (fun x s' => wpAny (model prog w) A (f x) Q (fun e s2 => wpAny (model prog w) A (k e) (fun _ s3 => E e s3) E s2) s') (fun e s2 => wpAny (model prog w) A (k e) (fun _ s3 => E e s3) E s2)) :
    wpAny (model prog w) A ((Builtin.SmallTypes.nextOf (.ref it) >>= f).onRaise k) Q E ⟨hp, g, d, tk, os⟩ := wpAny_onRaise (wpAny_bind (p hg t))
theorem freed {z I O e : Addr} {v : Value} {h : Heap} (gz : IsZip h z I O v) (st : Stop h e) (k : ∀ h', Rest [z] h h' → Stop h' e → E (.ref e) ⟨h', g, d, tk, os⟩) :
    wpAny (model prog w) A (setField (.ref z) 0 .none) (fun _ s3 => E (.ref e) s3) E ⟨h, g, d, tk, os⟩ := by
  obtain ⟨o, ho, hc⟩ := st
  have ne : e ≠ z := by
    rintro rfl
    have q := ho.symm.trans gz
    cases q
    exact absurd (Value.type.inj hc) (by decide)
  refine wpAny_setField gz rfl (by simp) (k _ (Rest.but (Heap.SameBut.update ..) (by simp)) ⟨o, (Heap.SameBut.update ..).extBut _ _ ne ho, hc⟩)
theorem step {z I O i j : Addr} {ox oy : Option Value} {a b : Value} {G1 G1' G2 G2' : Heap → Prop} {R : PySem.Fin → Shared → Prop}
    (gz : IsZip hp z I O .none) (gI : IsPair hp I (.ref i) (.ref j)) (gO : IsPair hp O a b) (ne : O ≠ z ∧ O ≠ i ∧ O ≠ j ∧ i ≠ z ∧ j ≠ z)
    (p1 : Pull prog w A i G1 G1' ox) (p2 : Pull prog w A j G2 G2' oy) (a1 : G1 hp) (a2 : G2 hp)
    (k1 : Stays [z, O, j] G1) (k2 : Stays [z, O, i] G2) (k3 : Stays [z, O, j] G1') (k4 : Stays [z, O, i] G2')
    (go : ∀ x y h', ox = some x → oy = some y → IsZip h' z I O (rawInt hp.objs.size) → IsPair h' O x y → IsPair h' hp.objs.size x y → G1' h' → G2' h' → Rest [z, O, i, j] hp h' → R (.done (.ret (.ref hp.objs.size))) ⟨h', g, d, tk, os⟩)
    (stop : ∀ e h', ox = none ∨ oy = none → Rest [z, O, i, j] hp h' → Stop h' e → E (.ref e) ⟨h', g, d, tk, os⟩) :
    wpAny (model prog w) A (Builtin.«zip.__next__» ⟨[.ref z], []⟩) R E ⟨hp, g, d, tk, os⟩ := by
  obtain ⟨n1, n2, n3, n4, n5⟩ := ne
  have c0 : (#[Value.none, .bool false, .bool false, .ref I, .ref O] : Array Value)[0]? = some .none := rfl
  have c2 : (#[Value.none, .bool false, .bool false, .ref I, .ref O] : Array Value)[2]? = some (.bool false) := rfl
  have c3 : (#[Value.none, .bool false, .bool false, .ref I, .ref O] : Array Value)[3]? = some (.ref I) := rfl
  have c4 : (#[Value.none, .bool false, .bool false, .ref I, .ref O] : Array Value)[4]? = some (.ref O) := rfl
  have z0 : 0 < (#[Value.none, .bool false, .bool false, .ref I, .ref O] : Array Value).size := by simp
  wp_walk using wpAny_field gz rfl c2, wpAny_field gz rfl c3, wpAny_seqItems gI rfl, wpAny_field gz rfl c0, wpAny_field gz rfl c4, wpAny_setField_rec gz z0
  intro h1 z1 r1
  have q1 : Rest [z] hp h1 := .but r1 (by simp)
  wp_walk
  refine p1.behind (f := fun x => pure (some x)) (k := fun _ => setField (.ref z) 0 .none) (k1 _ _ (q1.sub (by simp)) a1) ⟨fun x h2 e2 b2 r2 => ?_, fun e h2 e2 r2 st => ?_⟩
  · have O2 : IsPair h2 O a b := r2.extBut _ _ n2 (r1.extBut _ _ n1 gO)
    wp_walk using wpAny_seqItems O2 rfl, wpAny_updateSeq_pair O2
    intro h3 O3 r3
    wp_walk using wpAny_letGo
    have q3 : Rest [z, O, i] hp h3 := ((q1.sub (by simp)).trans (.but r2 (by simp))).trans (.but r3 (by simp))
    refine p2.behind (f := fun x => pure (some x)) (k := fun _ => setField (.ref z) 0 .none) (k2 _ _ q3 a2) ⟨fun y h4 e4 b4 r4 => ?_, fun e h4 e4 r4 st => ?_⟩
    · have O4 : IsPair h4 O x b := r4.extBut _ _ n3 O3
      wp_walk using wpAny_seqItems O4 rfl, wpAny_updateSeq_pair O4
      intro h5 O5 r5
      have O5' : IsPair h5 O x y := O5
      have q5 : Rest [z, O, i, j] hp h5 := ((q3.sub (by simp)).trans (.but r4 (by simp))).trans (.but r5 (by simp))
      have z5 : IsZip h5 z I O .ellipsis := r5.extBut _ _ n1.symm (r4.extBut _ _ n5.symm (r3.extBut _ _ n1.symm (r2.extBut _ _ n4.symm z1)))
      have sz : h5.objs.size = hp.objs.size := (((r5.1.trans r4.1).trans r3.1).trans r2.1).trans r1.1
      have lt : z < h5.objs.size := Heap.lt_size z5
      have z6 : IsZip (h5.push { cls := .type "tuple", data := .seq #[x, y].toList.toArray }) z I O .ellipsis := Heap.get?_push_of_some _ z5
      wp_walk using wpAny_letGo, wpAny_seqItems O5' rfl
      have z8 := Heap.get?_update_self (Obj.mapFields fun v => v.setIfInBounds 1 (Value.bool false)) (Heap.get?_update_self (Obj.mapFields fun v => v.setIfInBounds 0 (rawInt h5.objs.size)) z6 rfl) rfl
      have r8 : Rest [z] (h5.push { cls := .type "tuple", data := .seq #[x, y].toList.toArray }) _ := (Rest.but (b := z) (Heap.SameBut.update (f := Obj.mapFields fun v => v.setIfInBounds 0 (rawInt h5.objs.size)) ..) (by simp)).trans (Rest.but (b := z) (Heap.SameBut.update (f := Obj.mapFields fun v => v.setIfInBounds 1 (Value.bool false)) ..) (by simp))
      have q8 := (Rest.new _).trans r8
      have T8 := r8 h5.objs.size _ (by simp; exact Nat.ne_of_gt lt) (Heap.get?_push_size _ rfl)
      simp only [← sz] at go
      exact go x y _ e2 e4 z8 (q8 _ _ (by simp [n1]) O5') T8 (k3 _ _ ((((Rest.but (S := [z, O, j]) r3 (by simp)).trans (.but r4 (by simp))).trans (.but r5 (by simp))).trans (q8.sub (T := [z, O, j]) (by simp))) b2)
        (k4 _ _ ((Rest.but (S := [z, O, i]) r5 (by simp)).trans (q8.sub (T := [z, O, i]) (by simp))) b4) (q5.trans (q8.sub (T := [z, O, i, j]) (by simp)))
    · exact freed (r4 _ _ n5.symm (r3.extBut _ _ n1.symm (r2.extBut _ _ n4.symm z1))) st fun h5 r5 st' =>
        stop e h5 (.inr e4) (((q3.sub (by simp)).trans (.ext r4 (by simp))).trans (r5.sub (by simp))) st'
  · exact freed (r2 _ _ n4.symm z1) st fun h3 r3 st' => stop e h3 (.inl e2) (((q1.sub (by simp)).trans (.ext r2 (by simp))).trans (r3.sub (by simp))) st'
end
end Zo

set_option maxHeartbeats 4000000
namespace Zn
open PySem PySem.Spec PyProof.Rows
open Sem (wp)
section
variable {prog : Program} {w : World} {A : Around} {E : Value → Shared → Prop} {hp : Heap} {g : Array GenState} {d : Drawn} {tk : Nat} {os : OsState} {it l : Addr} {i n : Nat} {its : Array Value} {oi ol : Obj} {R : PySem.Fin → Shared → Prop}
theorem tup_step (hh : its[i]? = none → A.handled = none) (gi : hp.get? it = some oi) (di : oi.data = .fields #[.ref l, .int i 0]) (gl : hp.get? l = some ol) (dl : ol.data = .seq its n)
    (go : ∀ x, its[i]? = some x → R (.done (.ret x)) ⟨hp.update it (Obj.mapFields (·.setIfInBounds 1 (rawInt (i + 1)))), g, d, tk, os⟩)
    (stop : ∀ h' e, its[i]? = none → Heap.ExtBut it hp h' → (∃ o, h'.get? e = some o ∧ o.cls = .type "StopIteration") → E (.ref e) ⟨h', g, d, tk, os⟩) :
    wpAny (model prog w) A (Builtin.«tuple_iterator.__next__» ⟨[.ref it], []⟩) R E ⟨hp, g, d, tk, os⟩ := by
  have f0 : (#[Value.ref l, .int i 0] : Array Value)[0]? = some (.ref l) := rfl
  have f1 : (#[Value.ref l, .int i 0] : Array Value)[1]? = some (.int i 0) := rfl
  have z0 : 0 < (#[Value.ref l, .int i 0] : Array Value).size := by simp
  have z1 : 1 < (#[Value.ref l, .int i 0] : Array Value).size := by simp
  wp_walk using wpAny_field gi di f0, wpAny_field gi di f1, wpAny_seqItems gl dl
  rw [Int.toNat_natCast]
  cases hx : its[i]? with
  | some x =>
    dsimp only
    wp_walk using wpAny_setField gi di z1
    exact go x hx
  | none =>
    dsimp only
    have h0 := hh hx
    wp_walk using wpAny_setField gi di z0
    exact wpAny_raiseNew_none h0 (stop _ _ hx (((Heap.SameBut.update ..).extBut.push _).push _) ⟨_, Heap.get?_push_size _ rfl, rfl⟩)
end
end Zn

set_option maxHeartbeats 4000000
/-! zip of two lists or tuples, made and walked -/
namespace Zp
open PySem PySem.Spec PyProof.Rows Zo
open Sem (wp)
def Dat (t : Bool) (h : Heap) (l : Addr) (xs : Array Value) : Prop := if t then h.IsTuple l xs else h.IsList l xs
def Itr (t : Bool) (h : Heap) (it l : Addr) (i : Nat) : Prop := if t then h.IsTupleIter it l i else h.IsListIter it l i
theorem Dat.at {t : Bool} {h h' : Heap} {l : Addr} {xs : Array Value} (d : Dat t h l xs) (e : ∀ o, h.get? l = some o → h'.get? l = some o) : Dat t h' l xs := by
  cases t <;> exact let ⟨o, q, r⟩ := d; ⟨o, e o q, r⟩
theorem Itr.at {t : Bool} {h h' : Heap} {it l : Addr} {i : Nat} (d : Itr t h it l i) (e : ∀ o, h.get? it = some o → h'.get? it = some o) : Itr t h' it l i := by
  cases t <;> exact let ⟨o, q, r⟩ := d; ⟨o, e o q, r⟩
theorem Itr.obj {t : Bool} {h : Heap} {it l : Addr} {i : Nat} (d : Itr t h it l i) : ∃ o, h.get? it = some o ∧ ∀ v, o.data ≠ .cell v := by
  cases t <;> exact let ⟨o, e, _, q⟩ := d; ⟨o, e, fun v z => by rw [q] at z; cases z⟩
theorem Dat.push {t : Bool} {h : Heap} {l : Addr} {xs : Array Value} (d : Dat t h l xs) (o : Obj) : Dat t (h.push o) l xs := d.at fun _ q => Heap.get?_push_of_some _ q
def Stand (t : Bool) (it l : Addr) (k : Nat) (xs : Array Value) (h : Heap) : Prop := Itr t h it l k ∧ Dat t h l xs
theorem Stand.stays {t : Bool} {it l : Addr} {k : Nat} {xs : Array Value} {S : List Addr} (a : it ∉ S) (b : l ∉ S) : Stays S (Stand t it l k xs) := fun h h' r d => ⟨d.1.at fun o q => r _ o a q, d.2.at fun o q => r _ o b q⟩
section
variable {prog : Program} {w : World} {A : Around}
theorem via {E : Value → Shared → Prop} {T id : String} {f : Builtin} {a : Addr} {s : Shared} {Q : Option Value → Shared → Prop} (sl : Slot T (Str.ofString "__next__") id) (en : entryFor table id = some f) (ar : argsOk id ⟨[.ref a], []⟩) (ty : s.TypeIs (.ref a) T)
    (h : wpAny (model prog w) A.in1 (f ⟨[.ref a], []⟩) (fun r s' => ∃ v, r = .done (.ret v) ∧ Q (some v) s') E s) : wpAny (model prog w) A (callSpecial? (.ref a) (Str.ofString "__next__")) Q E s :=
  wpAny_callSpecial?_slot ty sl (wpAny_call_entry sl ty en h ar)
theorem pull {t : Bool} {it l : Addr} {k : Nat} {xs : Array Value} (hh : A.handled = none) : Pull prog w A it (Stand t it l k xs) (Stand t it l (k + 1) xs) xs[k]? := by
  intro Q E hp g d tk os st td
  have nl : ∀ {h'}, Heap.SameBut it hp h' → l ≠ it → Dat t h' l xs := fun r n => st.2.at fun o q => r.extBut _ _ n q
  cases t with
  | false =>
    obtain ⟨a, b⟩ : hp.IsListIter it l k ∧ hp.IsList l xs := st
    have n : l ≠ it := by
      rintro rfl
      obtain ⟨o, q, _, r⟩ := a
      obtain ⟨o', q', _, _, r'⟩ := b
      rw [q] at q'; cases q'; rw [r] at r'; cases r'
    cases hx : xs[k]? with
    | some x => exact wpAny_nextOf_list_item a b hx fun h' i r => td.1 x h' hx ⟨i, nl r n⟩ r
    | none => exact wpAny_nextOf_list_end hh a b hx fun h' e r s => td.2 e h' hx r s
  | true =>
    obtain ⟨a, b⟩ : hp.IsTupleIter it l k ∧ hp.IsTuple l xs := st
    have ty : (⟨hp, g, d, tk, os⟩ : Shared).TypeIs (.ref it) "tuple_iterator" := a.typeIs
    obtain ⟨o, q, c, r⟩ := a
    obtain ⟨o', q', c', m, r'⟩ := b
    have n : l ≠ it := by rintro rfl; rw [q] at q'; cases q'; rw [r] at r'; cases r'
    unfold Builtin.SmallTypes.nextOf
    refine wpAny_bind (via F.slot_tuple_iterator_next F.entry_tuple_iterator_next (F.args_tuple_iterator_next_1 _) ty (Zn.tup_step (fun _ => hh) q r q' r' (fun x hx => ⟨x, rfl, wpAny_pure (td.1 x _ hx ?_ (Heap.SameBut.update ..))⟩) fun h' e hx ex s => td.2 e h' hx ex s))
    refine ⟨(⟨_, Heap.get?_update_self _ q (Obj.isFreed_of_fields (Obj.data_mapFields r _)), (Obj.cls_mapFields ..).trans c, ?_⟩ : Heap.IsTupleIter _ it l (k + 1)), nl (Heap.SameBut.update ..) n⟩
    rw [Obj.data_mapFields r]
    rfl
variable {E : Value → Shared → Prop}
theorem next_zip {t1 t2 : Bool} {z I O i j l m : Addr} {k1 k2 : Nat} {xs ys : Array Value} {a b : Value} {Q : Option Value → Shared → Prop} {s : Shared} (hh : A.handled = none) (D : ZipApart z I O i j l m)
    (gz : IsZip s.heap z I O .none) (gI : IsPair s.heap I (.ref i) (.ref j)) (gO : IsPair s.heap O a b) (d1 : Stand t1 i l k1 xs s.heap) (d2 : Stand t2 j m k2 ys s.heap)
    (go : ∀ x y h', xs[k1]? = some x → ys[k2]? = some y → IsZip h' z I O (rawInt s.heap.objs.size) → IsPair h' O x y → IsPair h' s.heap.objs.size x y → Stand t1 i l (k1 + 1) xs h' → Stand t2 j m (k2 + 1) ys h' →
      Rest [z, O, i, j] s.heap h' → Q (some (.ref s.heap.objs.size)) ⟨h', s.gens, s.drawn, s.toks, s.os⟩)
    (stop : ∀ h', xs[k1]? = none ∨ ys[k2]? = none → Rest [z, O, i, j] s.heap h' → Q none ⟨h', s.gens, s.drawn, s.toks, s.os⟩) : wpAny (model prog w) A (pyNext (.ref z)) Q E s := by
  obtain ⟨hp, g, d, tk, os⟩ := s
  unfold pyNext
  refine wpAny_bind (wpAny_attempt (via F.slot_zip_next F.entry_zip_next (F.args_zip_next_1 _) ⟨_, gz, rfl⟩ (step gz gI gO ⟨D.TOz, D.TOi1, D.TOi2, D.i1z, D.i2z⟩ (pull (A := A.in1) hh) (pull (A := A.in1) hh) d1 d2 ?_ ?_ ?_ ?_ ?_ ?_)))
  · exact Stand.stays (by simp [D.i1z, D.TOi1.symm, D.i12]) (by simp [D.l1z, D.l1TO, D.l1i2])
  · exact Stand.stays (by simp [D.i2z, D.TOi2.symm, D.i12.symm]) (by simp [D.l2z, D.l2TO, D.l2i1])
  · exact Stand.stays (by simp [D.i1z, D.TOi1.symm, D.i12]) (by simp [D.l1z, D.l1TO, D.l1i2])
  · exact Stand.stays (by simp [D.i2z, D.TOi2.symm, D.i12.symm]) (by simp [D.l2z, D.l2TO, D.l2i1])
  · exact fun x y h' e1 e2 b1 b2 b3 b4 b5 b6 => ⟨_, rfl, wpAny_pure (go x y h' e1 e2 b1 b2 b3 b4 b5 b6)⟩
  · rintro e h' n r ⟨o, q, c⟩
    exact wpAny_bind (wpAny_isInstance (b := true) ⟨o, q, c⟩ isSubtype_stop (wpAny_pure (stop h' n r)))
end
/-! zip(..) made -/
abbrev itObj (t : Bool) (l : Addr) : Obj := { cls := .type (if t then "tuple_iterator" else "list_iterator"), data := .fields #[.ref l, .int 0 0] }
theorem itr_new {t : Bool} {h : Heap} {it l : Addr} (e : h.get? it = some (itObj t l)) : Itr t h it l 0 := by
  cases t <;> exact ⟨_, e, rfl, rfl⟩
theorem push5 {h : Heap} {o0 o1 o2 o3 o4 : Obj} (f0 : o0.isFreed = false) (f1 : o1.isFreed = false) (f2 : o2.isFreed = false) (f3 : o3.isFreed = false) (f4 : o4.isFreed = false) {H : Heap} (e : H = ((((h.push o0).push o1).push o2).push o3).push o4) :
    H.get? h.objs.size = some o0 ∧ H.get? (h.objs.size + 1) = some o1 ∧ H.get? (h.objs.size + 2) = some o2 ∧ H.get? (h.objs.size + 3) = some o3 ∧ H.get? (h.objs.size + 4) = some o4 ∧ ∀ c o, h.get? c = some o → H.get? c = some o := by
  subst e
  have w : ∀ {h : Heap} {a : Addr} {o o' : Obj}, h.get? a = some o → (h.push o').get? a = some o := fun q => Heap.get?_push_of_some _ q
  have s1 : (h.push o0).objs.size = h.objs.size + 1 := Heap.size_push ..
  have s2 : ((h.push o0).push o1).objs.size = h.objs.size + 2 := by rw [Heap.size_push, s1]
  have s3 : (((h.push o0).push o1).push o2).objs.size = h.objs.size + 3 := by rw [Heap.size_push, s2]
  have s4 : ((((h.push o0).push o1).push o2).push o3).objs.size = h.objs.size + 4 := by rw [Heap.size_push, s3]
  refine ⟨w (w (w (w (Heap.get?_push_size _ f0)))), ?_, ?_, ?_, ?_, fun c o q => w (w (w (w (w q))))⟩
  · rw [← s1]; exact w (w (w (Heap.get?_push_size _ f1)))
  · rw [← s2]; exact w (w (Heap.get?_push_size _ f2))
  · rw [← s3]; exact w (Heap.get?_push_size _ f3)
  · rw [← s4]; exact Heap.get?_push_size _ f4
structure New (t1 t2 : Bool) (h h' : Heap) (l m : Addr) : Prop where
  z : IsZip h' (h.objs.size + 4) (h.objs.size + 2) (h.objs.size + 3) .none
  I : IsPair h' (h.objs.size + 2) (.ref h.objs.size) (.ref (h.objs.size + 1))
  O : IsPair h' (h.objs.size + 3) .none .none
  i : Itr t1 h' h.objs.size l 0
  j : Itr t2 h' (h.objs.size + 1) m 0
  k : Rest [] h h'
section
variable {prog : Program} {w : World} {A : Around} {E : Value → Shared → Prop} {s : Shared}
theorem iter_dat {t : Bool} {l : Addr} {xs : Array Value} {Q : Value → Shared → Prop} (hl : Dat t s.heap l xs) (h : Q (.ref s.heap.objs.size) { s with heap := s.heap.push (itObj t l) }) : wpAny (model prog w) A (pyIter (.ref l)) Q E s := by
  cases t
  · exact wpAny_pyIter_list (show s.heap.IsList l xs from hl) h
  · exact wpAny_pyIter_tuple (show s.heap.IsTuple l xs from hl) h
theorem meets_zip (t1 t2 : Bool) (l m : Addr) (xs ys : Array Value) :
    Meets (Builtin.«zip.__new__» ⟨[.type "zip", .ref l, .ref m], []⟩) (fun _ R s => Dat t1 s.heap l xs ∧ Dat t2 s.heap m ys ∧
      ∀ h', New t1 t2 s.heap h' l m → R (.ok (.ret (.ref (s.heap.objs.size + 4)))) { s with heap := h' }) :=
  .of_wp fun prog w A R s h => by
    rcases s with ⟨hp, g, d, tk, os⟩
    rcases h with ⟨b1, b2, h⟩
    have hsub := sub_zip
    have L1 : Dat t1 (Shared.heap ⟨hp, g, d, tk, os⟩) l xs := b1
    have L2 : Dat t2 (Shared.heap ⟨hp.push (itObj t1 l), g, d, tk, os⟩) m ys := b2.push _
    wp_walk using iter_dat L1, iter_dat L2
    have key : ∀ n1 n2 n3 n4, n1 = hp.objs.size + 1 → n2 = hp.objs.size + 2 → n3 = hp.objs.size + 3 → n4 = hp.objs.size + 4 →
        R (.ok (.ret (.ref n4))) ⟨((((hp.push (itObj t1 l)).push (itObj t2 m)).push { cls := .type "tuple", data := .seq #[.ref hp.objs.size, .ref n1] }).push { cls := .type "tuple", data := .seq #[.none, .none] }).push
          { cls := .type "zip", data := .fields #[.none, .bool false, .bool false, .ref n2, .ref n3] }, g, d, tk, os⟩ := by
      rintro _ _ _ _ rfl rfl rfl rfl
      obtain ⟨a0, a1, a2, a3, a4, a5⟩ := push5 (h := hp) (o0 := itObj t1 l) (o1 := itObj t2 m) (o2 := { cls := .type "tuple", data := .seq #[.ref hp.objs.size, .ref (hp.objs.size + 1)] }) (o3 := { cls := .type "tuple", data := .seq #[.none, .none] })
        (o4 := { cls := .type "zip", data := .fields #[.none, .bool false, .bool false, .ref (hp.objs.size + 2), .ref (hp.objs.size + 3)] }) rfl rfl rfl rfl rfl rfl
      exact h _ ⟨a4, a2, a3, itr_new a0, itr_new a1, fun c o _ q => a5 c o q⟩
    exact ⟨_, rfl, key _ _ _ _ (by simp only [Heap.size_push]) (by simp only [Heap.size_push]) (by simp only [Heap.size_push]) (by simp only [Heap.size_push])⟩
theorem call_zip {t1 t2 : Bool} {l m : Addr} {xs ys : Array Value} {Q : Value → Shared → Prop} (b1 : Dat t1 s.heap l xs) (b2 : Dat t2 s.heap m ys)
    (k : ∀ h', New t1 t2 s.heap h' l m → Q (.ref (s.heap.objs.size + 4)) { s with heap := h' }) : wpAny (model prog w) A (call (.type "zip") [.ref l, .ref m]) Q E s :=
  callType_new F.called_zip (by decide) (F.typeCall_zip_2 _ _) (F.newCall_zip_2 _ _) (fun o => F.args_object_init_3 o _ _) F.entry_zip_new (meets_zip t1 t2 l m xs ys) ⟨b1, b2, fun h' n => ⟨⟨_, n.z, rfl⟩, k h' n⟩⟩
end
end Zp

set_option maxHeartbeats 4000000
namespace L2
open PySem PySem.Spec PyProof.Rows
section
variable {X : Cx} {pins : List (Addr × Obj)} {σ : St} {H : Hp} {s : Shared} {h' : Heap}
theorem Inv.turnedL {t' : Nat} {ch : List Addr} (I : Inv X pins σ H s) (k : ∀ b o, b ∉ ch → s.heap.get? b = some o → h'.get? b = some o) (hf : ∀ b ∈ ch, FpOk X pins H b) : Inv X pins σ H { s with heap := h', toks := t' } := by
  have nit : ∀ b u, H b = some u → b ∉ ch := fun b u e z => by rw [(hf b z).1] at e; cases e
  refine I.step (g' := s.gens) (d' := s.drawn) (ch := ch) (fun b hb => ⟨(hf b hb).2.2.2.1, (hf b hb).2.1, (hf b hb).2.2.2.2.1, (hf b hb).2.2.2.2.2⟩) (fun b o _ _ hc e _ => k b o hc e) (fun b o _ _ hc e _ => ⟨o.slots, k b o hc e⟩) (fun _ _ _ _ n => n)
    (fun b o hc e => ⟨o, k b o hc e⟩) (fun _ _ e => e) (fun _ _ _ e => e) (fun b ps e => ⟨#[], by rw [e]; simp⟩) (fun m hm => ?_) (fun b u e => ?_) I.bare
  · obtain ⟨o, es, ep, ho, r⟩ := hm
    exact ⟨o, es, ep, k _ o (fun z => (hf _ z).2.1 rfl) ho, r⟩
  · refine (I.hok b u e).stay (fun c v hc q => k c v ?_ q) (fun _ q => q) fun _ _ q => q
    rcases hc with z | z
    · rw [z]; exact nit b u e
    · exact nit c _ z
theorem Inv.turnedT {t' : Nat} {ch : List Addr} {T : Addr} {xs : List V} {its : List Value} (I : Inv X pins σ H s) (k : ∀ b o, b ∉ ch → s.heap.get? b = some o → h'.get? b = some o) (hf : ∀ b ∈ ch, FpOk X pins H b) (hT : s.heap.objs.size ≤ T) (hv : Vals xs its) (hz : xs.length ≤ sizeLine) (ht : IsTup h' T its.toArray) :
    Inv X pins σ (upd H T (.tup xs)) { s with heap := h', toks := t' } := by
  have nit : ∀ b u, H b = some u → b ∉ ch := fun b u e z => by rw [(hf b z).1] at e; cases e
  have hTn : H T = none := I.hok.fresh hT
  have neT : ∀ b o, s.heap.get? b = some o → b ≠ T := fun b o e => Nat.ne_of_lt (Nat.lt_of_lt_of_le (Heap.lt_size e) hT)
  have neH : ∀ b u, H b = some u → b ≠ T := fun b u e z => by rw [z, hTn] at e; cases e
  refine I.step (g' := s.gens) (d' := s.drawn) (ch := ch) (fun b hb => ⟨(hf b hb).2.2.2.1, (hf b hb).2.1, (hf b hb).2.2.2.2.1, (hf b hb).2.2.2.2.2⟩) (fun b o _ _ hc e _ => k b o hc e) (fun b o _ _ hc e _ => ⟨o.slots, k b o hc e⟩)
    (fun b o _ e n => by rw [upd_ne (neT b o e)]; exact n)
    (fun b o hc e => ⟨o, k b o hc e⟩) (fun b ys e => by rw [upd_ne (neH b _ e)]; exact e) (fun b o u e => by rw [upd_ne (neH b _ e)]; exact e) (fun b ps e => ⟨#[], by rw [upd_ne (neH b _ e), e]; simp⟩) (fun m hm => ?_) (fun b u e => ?_) I.bare
  · obtain ⟨o, es, ep, ho, r⟩ := hm
    exact ⟨o, es, ep, k _ o (fun z => (hf _ z).2.1 rfl) ho, r⟩
  · by_cases hb : b = T
    · subst hb
      rw [upd_same] at e
      cases e
      exact ⟨hz, its, hv, ht⟩
    · rw [upd_ne hb] at e
      refine (I.hok b u e).stay (fun c v hc q => k c v ?_ q) (fun c q => by rw [upd_ne (neH c _ q)]; exact q) fun c ys q => by rw [upd_ne (neH c _ q)]; exact q
      rcases hc with z | z
      · rw [z]; exact nit b u e
      · exact nit c _ z
end
def SqX (t : Bool) (K : PySem.W.Frag) (H : Hp) (a : Addr) (xs : List V) : Prop := if t then SqT K H a xs else SqL K H a xs
theorem Inv.sqx {X : Cx} {pins : List (Addr × Obj)} {σ : St} {H : Hp} {s : Shared} {t : Bool} {a : Addr} {xs : List V} (I : Inv X pins σ H s) (h : SqX t X.K H a xs) : ∃ its : List Value, Vals xs its ∧ Zp.Dat t s.heap a its.toArray ∧ xs.length ≤ sizeLine := by
  cases t
  · obtain ⟨its, v, p, z⟩ := I.list (show SqL X.K H a xs from h)
    exact ⟨its, v, p.isList, z⟩
  · obtain ⟨its, v, p, z⟩ := I.tuple (show SqT X.K H a xs from h)
    exact ⟨its, v, p, z⟩
theorem Inv.sqx_inj {X : Cx} {pins : List (Addr × Obj)} {σ : St} {H : Hp} {s : Shared} {t : Bool} {a : Addr} {xs ys : List V} (I : Inv X pins σ H s) (h : SqX t X.K H a xs) (h' : SqX t X.K H a ys) : xs = ys := by
  cases t
  · exact I.list_inj (show SqL X.K H a xs from h) h'
  · exact I.tuple_inj (show SqT X.K H a xs from h) h'
def Itz (t1 t2 : Bool) (K : PySem.W.Frag) (l1 l2 : Addr) : It :=
  ⟨fun i H => ∃ xs x ys y, SqX t1 K H l1 xs ∧ xs[i]? = some x ∧ SqX t2 K H l2 ys ∧ ys[i]? = some y,
   fun i H v H' => ∃ T x y, v = .ref T ∧ H T = none ∧ H' = upd H T (.tup [x, y]) ∧ (∀ xs, SqX t1 K H l1 xs → xs[i]? = some x) ∧ ∀ ys, SqX t2 K H l2 ys → ys[i]? = some y,
   fun i H => ∃ xs ys, SqX t1 K H l1 xs ∧ SqX t2 K H l2 ys ∧ (xs.length ≤ i ∨ ys.length ≤ i)⟩
theorem turn_zip {P : Program} {w : World} {K : PySem.W.Frag} {es : List Expr} {kk : Nat} {tp : Pos} {t1 t2 : Bool} {z TI TO i1 i2 l1 l2 : Addr} (D : ZipApart z TI TO i1 i2 l1 l2) :
    Turn P w K (.Tuple es kk tp) (Itz t1 t2 K l1 l2) [z, TI, TO, i1, i2] z (fun i h => IsZip h z TI TO .none ∧ IsPair h TI (.ref i1) (.ref i2) ∧ (∃ a b, IsPair h TO a b) ∧ Zp.Itr t1 h i1 l1 i ∧ Zp.Itr t2 h i2 l2 i) where
  mem := by simp
  obj := fun i h st b hb => by
    obtain ⟨a1, a2, ⟨x, y, a3⟩, a4, a5⟩ := st
    simp only [List.mem_cons, List.not_mem_nil, or_false] at hb
    rcases hb with rfl | rfl | rfl | rfl | rfl
    · exact ⟨_, a1, fun v q => by have q' : Data.fields _ = Data.cell v := q; cases q'⟩
    · exact ⟨_, a2, fun v q => by have q' : Data.seq _ _ = Data.cell v := q; cases q'⟩
    · exact ⟨_, a3, fun v q => by have q' : Data.seq _ _ = Data.cell v := q; cases q'⟩
    · exact a4.obj
    · exact a5.obj
  keep := fun i h h' st k => by
    obtain ⟨a1, a2, ⟨x, y, a3⟩, a4, a5⟩ := st
    exact ⟨k z (by simp) _ a1, k TI (by simp) _ a2, ⟨x, y, k TO (by simp) _ a3⟩, a4.at fun o e => k i1 (by simp) o e, a5.at fun o e => k i2 (by simp) o e⟩
  item := by
    intro X hP hw hK hc i pins s σ H E I hf st hg
    subst hP hw hK
    obtain ⟨xs, x, ys, y, q1, hx, q2, hy⟩ := hg
    obtain ⟨a1, a2, ⟨u1, u2, a3⟩, a4, a5⟩ := st
    obtain ⟨its, rv, dt, hz⟩ := I.sqx q1
    obtain ⟨its', rv', dt', hz'⟩ := I.sqx q2
    obtain ⟨vx, hvx, rx⟩ := rv.get hx
    obtain ⟨vy, hvy, ry⟩ := rv'.get hy
    refine Zp.next_zip (I.ok.hd hc) D a1 a2 a3 (d1 := ⟨a4, dt⟩) (d2 := ⟨a5, dt'⟩) (fun wx wy h' f1 f2 b1 b2 b5 b3 b4 bk => ?_) (fun h' n _ => ?_)
    rotate_left
    · exfalso
      rcases n with n | n
      · rw [show its.toArray[i]? = some vx by simpa using hvx] at n; cases n
      · rw [show its'.toArray[i]? = some vy by simpa using hvy] at n; cases n
    obtain rfl : vx = wx := Option.some.inj ((show its.toArray[i]? = some vx by simpa using hvx).symm.trans f1)
    obtain rfl : vy = wy := Option.some.inj ((show its'.toArray[i]? = some vy by simpa using hvy).symm.trans f2)
    refine ⟨_, rfl, wpAny_letOwnedTupleGo_zip b1 fun h2 c1 sb => ?_⟩
    have zT : s.heap.objs.size ≠ z := Nat.ne_of_gt (Heap.lt_size a1)
    have k2 : ∀ b o, b ∉ [z, TI, TO, i1, i2] → s.heap.get? b = some o → h2.get? b = some o := fun b o hb e => by
      simp only [List.mem_cons, List.not_mem_nil, or_false, not_or] at hb
      exact sb.extBut b o hb.1 (bk b o (by simp [hb]) e)
    have hT : IsTup h2 s.heap.objs.size ([vx, vy] : List Value).toArray := ⟨_, sb.extBut _ _ zT b5, rfl, _, rfl⟩
    refine ⟨.ref s.heap.objs.size, upd H s.heap.objs.size (.tup [x, y]), I.turnedT (t' := s.toks) k2 hf (Nat.le_refl _) (.cons rx (.cons ry .nil)) (by show 2 ≤ sizeLine; decide) hT, rfl, ⟨_, x, y, rfl, I.hok.fresh (Nat.le_refl _), rfl, fun xs' h1 => ?_, fun ys' h1 => ?_⟩, ⟨c1, ?_, ⟨vx, vy, ?_⟩, ?_, ?_⟩, fun b hb => ?_⟩
    · rw [I.sqx_inj h1 q1]; exact hx
    · rw [I.sqx_inj h1 q2]; exact hy
    · exact sb.extBut _ _ D.TIz (bk _ _ (by simp [D.TIz, D.TITO, D.TIi1, D.TIi2]) a2)
    · exact sb.extBut _ _ D.TOz b2
    · exact b3.1.at fun o q => sb.extBut _ _ D.i1z q
    · exact b4.1.at fun o q => sb.extBut _ _ D.i2z q
    · have hlt : b < s.heap.objs.size := by
        simp only [List.mem_cons, List.not_mem_nil, or_false] at hb
        rcases hb with rfl | rfl | rfl | rfl | rfl
        · exact Heap.lt_size a1
        · exact Heap.lt_size a2
        · exact Heap.lt_size a3
        · obtain ⟨o, e, _⟩ := a4.obj; exact Heap.lt_size e
        · obtain ⟨o, e, _⟩ := a5.obj; exact Heap.lt_size e
      rw [upd_ne (Nat.ne_of_lt hlt)]
      exact (hf b hb).1
  done := by
    intro X hP hw hK hc i pins s σ H E I hf st hg
    subst hP hw hK
    obtain ⟨xs, ys, q1, q2, hend⟩ := hg
    obtain ⟨a1, a2, ⟨u1, u2, a3⟩, a4, a5⟩ := st
    obtain ⟨its, rv, dt, hz⟩ := I.sqx q1
    obtain ⟨its', rv', dt', hz'⟩ := I.sqx q2
    have e1 := rv.length
    have e2 := rv'.length
    have hend' : its.toArray[i]? = none ∨ its'.toArray[i]? = none := by
      rcases hend with h | h
      · left; simp; omega
      · right; simp; omega
    refine Zp.next_zip (I.ok.hd hc) D a1 a2 a3 (d1 := ⟨a4, dt⟩) (d2 := ⟨a5, dt'⟩) (fun wx wy h' f1 f2 b1 b2 b5 b3 b4 bk => ?_) (fun h' n bk => ⟨rfl, I.turnedL (t' := s.toks) (fun b o hb e => ?_) hf⟩)
    · exfalso
      rcases hend' with n | n
      · rw [f1] at n; cases n
      · rw [f2] at n; cases n
    · simp only [List.mem_cons, List.not_mem_nil, or_false, not_or] at hb
      exact bk b o (by simp [hb]) e
  self := fun _ _ _ _ _ st h => wpAny_pyIter_zip st.1 h
section
variable {X : Cx} {es : List Expr} {kk : Nat} {tp : Pos}
def iZip (t1 t2 : Bool) (K : PySem.W.Frag) (ta : TA) : TI := fun σ H R => ta σ H fun vs H1 => ∃ l1 l2 xs ys, vs = [.ref l1, .ref l2] ∧ SqX t1 K H1 l1 xs ∧ SqX t2 K H1 l2 ys ∧ R (Itz t1 t2 K l1 l2) H1
theorem pi_zip (t1 t2 : Bool) {a b : Expr} {ta : TA} {p pos : Pos} (hg : Gl X "zip") (hm : X.mg "zip" = none) (ha : PA X [a, b] ta) (hs : starEach [a, b] X.env = [(false, eval a X.env), (false, eval b X.env)] := by rfl) (hs2 : starEach [b] X.env = [(false, eval b X.env)] := by rfl) :
    PI X (.Tuple es kk tp) (.Call (.Name "zip" p) [a, b] [] pos) (iZip t1 t2 X.K ta) := by
  intro pins s σ H R I h
  refine Call_ (ld_blt I hg hm boot_zip (PyProof.Rows.callWith_type1 (thn (ha pos pins s σ H _ I h) fun us s1 ⟨vs, H1, I1, r1, q1⟩ => ?_) (by rw [hs, hs2]) (by rw [hs2]; rfl)))
  obtain ⟨l1, l2, xs, ys, e, h1, h2, q⟩ := q1
  subst e
  cases r1 with
  | cons r rr =>
    cases rr with
    | cons r' rr =>
      cases rr
      cases r
      cases r'
      obtain ⟨its, rv, dt, hz⟩ := I1.sqx h1
      obtain ⟨its', rv', dt', hz'⟩ := I1.sqx h2
      refine Zp.call_zip dt dt' fun h' ⟨z1, z2, z3, z4, z5, zk'⟩ => ?_
      have zk : ∀ c o, s1.heap.get? c = some o → h'.get? c = some o := fun c o q => zk' c o (by simp) q
      have I2 : Inv X pins σ H1 { s1 with heap := h' } := I1.kept (t' := s1.toks) zk
      have lt1 : l1 < s1.heap.objs.size := by
        cases t1
        · obtain ⟨o, e, _⟩ := (show s1.heap.IsList l1 _ from dt); exact Heap.lt_size e
        · obtain ⟨o, e, _⟩ := (show s1.heap.IsTuple l1 _ from dt); exact Heap.lt_size e
      have lt2 : l2 < s1.heap.objs.size := by
        cases t2
        · obtain ⟨o, e, _⟩ := (show s1.heap.IsList l2 _ from dt'); exact Heap.lt_size e
        · obtain ⟨o, e, _⟩ := (show s1.heap.IsTuple l2 _ from dt'); exact Heap.lt_size e
      have D : ZipApart (s1.heap.objs.size + 4) (s1.heap.objs.size + 2) (s1.heap.objs.size + 3) s1.heap.objs.size (s1.heap.objs.size + 1) l1 l2 := zipApart_new lt1 lt2
      refine wpAny_pyIter_zip z1 ⟨_, _, _, _, H1, rfl, I2, turn_zip D, ⟨z1, z2, ⟨_, _, z3⟩, z4, z5⟩, fun b hb => ?_, q⟩
      have hge : s1.heap.objs.size ≤ b := by
        simp only [List.mem_cons, List.not_mem_nil, or_false] at hb
        rcases hb with rfl | rfl | rfl | rfl | rfl
        · exact Nat.le_add_right _ _
        · exact Nat.le_add_right _ _
        · exact Nat.le_add_right _ _
        · exact Nat.le_refl _
        · exact Nat.le_add_right _ _
      exact I1.fpOk hge (I1.hok.fresh hge)
end
theorem lc_zip {t1 t2 : Bool} {K : PySem.W.Frag} {l1 l2 : Addr} {g : TG} {xs ys : List V} {te : TE} {fr : St} {H1 : Hp} {acc : Addr} {Q : VK} (Pv : Nat → List V → Hp → Prop) (hxy : xs.length = ys.length) (hn : xs.length ≤ sizeLine) (h0 : Pv 0 [] (upd H1 acc (.lst [])))
    (hg : ∀ {a : Addr} {x y v1 v2 : V} {w1 w2 : Option V} {H : Hp} {Q : St → Hp → Prop}, H a = some (.tup [x, y]) → Q (some x :: some y :: fr) H → g (.ref a) (w1 :: w2 :: fr) H Q)
    (hl : ∀ i zs H, Pv i zs H → SqX t1 K H l1 xs ∧ SqX t2 K H l2 ys)
    (hs : ∀ i x y zs H T (N : V → Hp → Prop), xs[i]? = some x → ys[i]? = some y → zs.length = i → Pv i zs H → H T = none → (∀ z H5, H5 acc = some (.lst zs) → Pv (i + 1) (zs ++ [z]) (upd H5 acc (.lst (zs ++ [z]))) → N z H5) → te (some x :: some y :: fr) (upd H T (.tup [x, y])) N)
    (hd : ∀ zs H, zs.length = xs.length → Pv xs.length zs H → Q (.ref acc) H) : LcW (Itz t1 t2 K l1 l2) g te (none :: none :: fr) H1 acc Q := by
  refine ⟨fun i m zs σ2 H2 => m = xs.length - i ∧ i ≤ xs.length ∧ zs.length = i ∧ (∃ v w, σ2 = v :: w :: fr) ∧ Pv i zs H2, ⟨xs.length, by simp, Nat.zero_le _, rfl, ⟨_, _, rfl⟩, h0⟩, ?_⟩
  rintro i m zs σ2 H2 ⟨rfl, hi, hl2, ⟨v, w, rfl⟩, p⟩
  obtain ⟨s1, s2⟩ := hl i zs H2 p
  by_cases hlt : i < xs.length
  · have e1 : xs[i]? = some xs[i] := by simp [hlt]
    have e2 : ys[i]? = some (ys[i]'(by omega)) := by simp [show i < ys.length by omega]
    refine .inr ⟨⟨xs, _, ys, _, s1, e1, s2, e2⟩, fun u H3 y3 => ?_⟩
    obtain ⟨T, x, y, rfl, hT, rfl, h1, h2⟩ := y3
    have hx := h1 xs s1
    have hy := h2 ys s2
    refine hg (v1 := x) (v2 := y) (upd_same) ?_
    refine hs i x y zs H2 T _ hx hy hl2 p hT fun z H5 a5 p5 => ⟨a5, by omega, xs.length - (i + 1), by omega, rfl, hlt, by rw [List.length_append, hl2]; rfl, ⟨_, _, rfl⟩, p5⟩
  · have e : i = xs.length := by omega
    subst e
    exact .inl ⟨⟨xs, ys, s1, s2, .inl (Nat.le_refl _)⟩, hd zs H2 hl2 p⟩
end L2

set_option maxHeartbeats 4000000
/-! bits of ints: the lowest place at 1 -/
namespace Bt
open PySem PyProof.Rows
theorem nat_and (x y : Nat) : (x &&& y) = 2 * ((x / 2) &&& (y / 2)) + (x % 2) * (y % 2) := by
  have h1 : (x &&& y) / 2 = (x / 2) &&& (y / 2) := Nat.and_div_two
  have h2 : (x &&& y) % 2 = 1 ↔ x % 2 = 1 ∧ y % 2 = 1 := Nat.and_mod_two_eq_one
  rcases Nat.mod_two_eq_zero_or_one x with a | a <;> rcases Nat.mod_two_eq_zero_or_one y with b | b <;> rw [a, b] at h2 ⊢ <;> omega
theorem nat_or (x y : Nat) : (x ||| y) = 2 * ((x / 2) ||| (y / 2)) + (x % 2 + y % 2 - (x % 2) * (y % 2)) := by
  have h1 : (x ||| y) / 2 = (x / 2) ||| (y / 2) := Nat.or_div_two
  have h2 : (x ||| y) % 2 = 1 ↔ x % 2 = 1 ∨ y % 2 = 1 := Nat.or_mod_two_eq_one
  rcases Nat.mod_two_eq_zero_or_one x with a | a <;> rcases Nat.mod_two_eq_zero_or_one y with b | b <;> rw [a, b] at h2 ⊢ <;> omega
def Half (x y : Int) : Prop := Builtin.bitAnd x y = 2 * Builtin.bitAnd (x / 2) (y / 2) + (x % 2) * (y % 2)
theorem Half.swap {x y : Int} (h : Half x y) : Half y x := by
  unfold Half at h ⊢
  rw [bitAnd_comm y x, bitAnd_comm (y / 2), Int.mul_comm (y % 2)]; exact h
theorem Half.flip {x y : Int} (h : Half x (Builtin.bitNot y)) : Half x y := by
  unfold Half at h ⊢
  have e := bitAnd_not x (Builtin.bitNot y)
  have e2 := bitAnd_not (x / 2) (Builtin.bitNot (y / 2))
  rw [bitNot_bitNot] at e e2
  have q : Builtin.bitNot (y / 2) = Builtin.bitNot y / 2 := by unfold Builtin.bitNot; omega
  have p : x % 2 * (y % 2) = x % 2 - x % 2 * (Builtin.bitNot y % 2) := by
    rw [show y % 2 = 1 - Builtin.bitNot y % 2 by unfold Builtin.bitNot; omega, Int.mul_sub, Int.mul_one]
  rw [e, e2, q, h, p]; omega
theorem Half.pos {x y : Int} (hx : 0 ≤ x) (hy : 0 ≤ y) : Half x y := by
  have h : ∀ {z : Int}, 0 ≤ z → z.toNat / 2 = (z / 2).toNat ∧ ((z.toNat % 2 : Nat) : Int) = z % 2 := fun h => by omega
  unfold Half
  rw [bitAnd_pp hx hy, bitAnd_pp (Int.ediv_nonneg hx (by decide)) (Int.ediv_nonneg hy (by decide)), nat_and, (h hx).1, (h hy).1, ← (h hx).2, ← (h hy).2, Int.natCast_add, Int.natCast_mul, Int.natCast_mul]; rfl
theorem Half.right {x : Int} (hx : 0 ≤ x) (y : Int) : Half x y :=
  (Classical.em (0 ≤ y)).elim (Half.pos hx) fun hy => (Half.pos hx (bitNot_nonneg.mpr hy)).flip
theorem and_half (x y : Int) : Builtin.bitAnd x y = 2 * Builtin.bitAnd (x / 2) (y / 2) + (x % 2) * (y % 2) :=
  (Classical.em (0 ≤ x)).elim (fun hx => Half.right hx y) fun hx => (Half.right (bitNot_nonneg.mpr hx) y).swap.flip.swap
theorem or_half (x y : Int) : Builtin.bitOr x y = 2 * Builtin.bitOr (x / 2) (y / 2) + (x % 2 + y % 2 - (x % 2) * (y % 2)) := by
  rw [bitOr_and, bitOr_and, and_half]
  omega
theorem pow_succ_dvd {v : Nat} {x : Int} : (2 : Int) ^ (v + 1) ∣ x ↔ x % 2 = 0 ∧ (2 : Int) ^ v ∣ x / 2 := by
  constructor
  · rintro ⟨k, rfl⟩
    have e : (2 : Int) ^ (v + 1) * k = 2 * (2 ^ v * k) := by rw [Int.pow_succ]; grind
    rw [e]
    exact ⟨by omega, ⟨k, by omega⟩⟩
  · rintro ⟨h0, k, hk⟩
    refine ⟨k, ?_⟩
    have e : (2 : Int) ^ (v + 1) * k = 2 * (2 ^ v * k) := by rw [Int.pow_succ]; grind
    rw [e, ← hk]
    omega
theorem or_dvd : ∀ (v : Nat) (x y : Int), (2 : Int) ^ v ∣ Builtin.bitOr x y ↔ (2 : Int) ^ v ∣ x ∧ (2 : Int) ^ v ∣ y
  | 0, x, y => by simp
  | v + 1, x, y => by
    rw [pow_succ_dvd, pow_succ_dvd, pow_succ_dvd]
    have e := or_half x y
    have ih := or_dvd v (x / 2) (y / 2)
    have ex := Int.emod_two_eq x
    have ey := Int.emod_two_eq y
    rcases ex with a | a <;> rcases ey with b | b <;> rw [a, b] at e ⊢
    · have e2 : Builtin.bitOr x y / 2 = Builtin.bitOr (x / 2) (y / 2) := by omega
      rw [e2, ih]
      have e3 : Builtin.bitOr x y % 2 = 0 := by omega
      simp [e3]
    all_goals
      have e3 : Builtin.bitOr x y % 2 = 1 := by omega
      simp [e3]
theorem lt_two_pow (n : Nat) : n < 2 ^ n := Nat.lt_two_pow_self
theorem zero_of_dvd {x : Int} (h : ∀ v : Nat, (2 : Int) ^ v ∣ x) : x = 0 := by
  have h1 := h x.natAbs
  apply Classical.byContradiction
  intro hx
  have h2 := Int.natAbs_dvd_natAbs.mpr h1
  have h3 := Nat.le_of_dvd (by omega) h2
  rw [Int.natAbs_pow] at h3
  have := lt_two_pow x.natAbs
  have e : (2 : Int).natAbs = 2 := rfl
  rw [e] at h3
  omega
theorem or_zero {x y : Int} : Builtin.bitOr x y = 0 ↔ x = 0 ∧ y = 0 := by
  constructor
  · intro h
    have hd : ∀ v : Nat, (2 : Int) ^ v ∣ Builtin.bitOr x y := fun v => by rw [h]; exact Int.dvd_zero _
    exact ⟨zero_of_dvd fun v => ((or_dvd v x y).mp (hd v)).1, zero_of_dvd fun v => ((or_dvd v x y).mp (hd v)).2⟩
  · rintro ⟨rfl, rfl⟩
    decide +kernel
theorem low_bit : ∀ (n : Nat) (p : Int), p.natAbs < n → p ≠ 0 → ∃ (v : Nat) (q : Int), p = 2 ^ v * q ∧ q % 2 = 1 ∧ Builtin.bitAnd p (-p) = ((2 ^ v : Nat) : Int)
  | 0, p, h, _ => by omega
  | n + 1, p, h, hp => by
    rcases Int.emod_two_eq p with h0 | h1
    · obtain ⟨v, q, e, o, b⟩ := low_bit n (p / 2) (by omega) (by omega)
      refine ⟨v + 1, q, ?_, o, ?_⟩
      · have e2 : (2 : Int) ^ (v + 1) * q = 2 * (2 ^ v * q) := by rw [Int.pow_succ]; grind
        rw [e2, ← e]; omega
      · rw [and_half, show (-p) / 2 = -(p / 2) by omega, b, h0, Nat.pow_succ]
        omega
    · refine ⟨0, p, by simp, h1, ?_⟩
      rw [and_half, show (-p) / 2 = Builtin.bitNot (p / 2) by unfold Builtin.bitNot; omega, bitAnd_not, bitAnd_self, h1, show (-p) % 2 = 1 by omega]
      rw [Int.sub_self]; rfl
theorem bits_pow (v : Nat) : Builtin.Int.intBits ((2 ^ v : Nat) : Int) = v + 1 := by
  unfold Builtin.Int.intBits
  have hp : 0 < 2 ^ v := Nat.two_pow_pos v
  have hne : ((((2 ^ v : Nat) : Int)) == 0) = false := by
    rw [beq_eq_false_iff_ne]; omega
  rw [hne, Int.natAbs_natCast, Nat.log2_two_pow]
  rfl
end Bt

set_option maxHeartbeats 4000000
/-! more rules: great shifts, bit_length, any and all of bools, lists of ints compared -/
namespace L2
open PySem PySem.Spec PyProof.Rows
section
variable {X : Cx}
def CShl (i j : Int) : Prop := ∃ a, Sz a i ∧ 0 ≤ j ∧ (a : Int) + j ≤ 1048576
theorem op_shlS : OpR X (binaryOp .LShift) (rI CShl fun i j => .int (i * 2 ^ j.toNat)) := opI fun i j _ _ _ _ _ hc q => by
  obtain ⟨a, h1, h2, h3⟩ := hc
  have := h1.bits
  exact lshift_int h2 (by omega) q
theorem mt_bitlen : MtR X "int.bit_length" (fun x xs H Q => ∃ i, x = .int i ∧ xs = [] ∧ Q (.int (Builtin.Int.intBits i : Nat)) H) := by
  intro pins s σ H x xs v us Q I rx rs h
  obtain ⟨i, rfl, rfl, q⟩ := h
  obtain ⟨t, rfl⟩ := rx
  cases rs
  refine call_gives PySem.F.slot_int_bit_length (typeIs_int s i t) PySem.F.entry_int_bit_length (PySem.F.args_int_bit_length_1 _) (PySem.AutoIntG2.int_bit_length_int_0 i t) ?_
  exact ⟨.int (Builtin.Int.intBits i : Nat), H, I.tok _, ⟨_, rfl⟩, q⟩
theorem call_anyL (hc : X.calm = true) : CallR X (.builtin "any") (fun xs H Q => ∃ (p : Addr) (bs : List Bool), xs = [.ref p] ∧ SqL X.K H p (bs.map V.bl) ∧ Q (.bl (bs.any id)) H) := by
  intro pins s σ H xs us Q I r h
  obtain ⟨p, bs, rfl, hq, q⟩ := h
  obtain ⟨u, rfl, ru⟩ := r.one
  cases ru
  obtain ⟨its, rv, pl, hz⟩ := I.list hq
  have hlen : its.length = bs.length := by rw [← rv.length, List.length_map]
  refine call_any_walk (wpAny_pyIter_list pl.isList ?_)
  have W := Walks.list (prog := X.prog) (w := X.w) (A := X.A.in1) (show X.A.in1.handled = none from I.ok.hd hc) s.heap.objs.size p (by
    obtain ⟨o, e, _⟩ := pl.isList
    exact Nat.ne_of_lt (Heap.lt_size e)) its.toArray
  refine ⟨s.heap.objs.size, _, _, _, _, _, fun i => bs.getD i false, rfl, W, ⟨⟨_, Heap.get?_push_size _ rfl, rfl, rfl⟩, pl.isList.push _⟩, ?_, fun h' tk hk => ?_⟩
  · intro i v s' Q' E' hv hQ
    have hv' : its[i]? = some v := by simpa using hv
    have hi : i < bs.length := by rw [← hlen]; exact (List.getElem?_eq_some_iff.mp hv').1
    have hb : (bs.map V.bl)[i]? = some (.bl (bs.getD i false)) := by
      rw [List.getElem?_map, List.getElem?_eq_getElem hi, List.getD_eq_getElem?_getD, List.getElem?_eq_getElem hi]; rfl
    obtain ⟨u, hu, ru⟩ := rv.get hb
    rw [hv'] at hu
    cases hu
    cases ru
    exact wpAny_truthy_bool hQ
  · have e : (List.range its.toArray.size).any (fun i => bs.getD i false) = bs.any id := by
      rw [List.size_toArray, hlen]
      rw [Bool.eq_iff_iff, List.any_eq_true, List.any_eq_true]
      constructor
      · rintro ⟨i, hi, hb⟩
        have hi' : i < bs.length := List.mem_range.mp hi
        rw [List.getD_eq_getElem?_getD, List.getElem?_eq_getElem hi'] at hb
        exact ⟨bs[i], List.getElem_mem hi', hb⟩
      · rintro ⟨b, hb, hb'⟩
        obtain ⟨i, hi, rfl⟩ := List.mem_iff_getElem.mp hb
        refine ⟨i, List.mem_range.mpr hi, ?_⟩
        rw [List.getD_eq_getElem?_getD, List.getElem?_eq_getElem hi]
        exact hb'
    rw [e]
    refine ⟨.bl (bs.any id), H, ?_, rfl, q⟩
    exact I.kept (t' := tk) fun b o eo => hk b o (by simp; exact Nat.ne_of_lt (Heap.lt_size eo)) (Heap.get?_push_of_some _ eo)
end
end L2

set_option maxHeartbeats 4000000
/-! amounts: four parts and halvings -/
namespace Am
open PySem
abbrev p2 (h : Int) : Int := 2 ^ h.toNat
theorem p2_pos (h : Int) : 0 < p2 h := Int.pow_pos (by decide)
theorem p2_ne (h : Int) : p2 h ≠ 0 := by have := p2_pos h; omega
theorem p2_add {a b : Int} (ha : 0 ≤ a) (hb : 0 ≤ b) : p2 (a + b) = p2 a * p2 b := by
  unfold p2
  rw [show (a + b).toNat = a.toNat + b.toNat by omega, Int.pow_add]
theorem p2_sub {a b : Int} (hb : 0 ≤ b) (h : b ≤ a) : p2 a = p2 (a - b) * p2 b := by
  rw [← p2_add (by omega) hb]
  congr 1
  omega
structure Amt (a b c d h : Int) : Prop where
  nn : 0 ≤ h
  odd : h = 0 ∨ a % 2 = 1 ∨ b % 2 = 1 ∨ c % 2 = 1 ∨ d % 2 = 1
def Eq2 (x h y g : Int) : Prop := x * p2 g = y * p2 h
structure Same4 (a b c d h a' b' c' d' h' : Int) : Prop where
  e1 : Eq2 a h a' h'
  e2 : Eq2 b h b' h'
  e3 : Eq2 c h c' h'
  e4 : Eq2 d h d' h'
theorem Same4.symm {a b c d h a' b' c' d' h' : Int} (s : Same4 a b c d h a' b' c' d' h') : Same4 a' b' c' d' h' a b c d h := ⟨s.e1.symm, s.e2.symm, s.e3.symm, s.e4.symm⟩
theorem Eq2.trans {x h y g z k : Int} (a : Eq2 x h y g) (b : Eq2 y g z k) : Eq2 x h z k := by
  unfold Eq2 at *
  have h1 : (x * p2 k) * p2 g = (z * p2 h) * p2 g := by
    have e1 : (x * p2 k) * p2 g = (x * p2 g) * p2 k := by grind
    have e2 : (z * p2 h) * p2 g = (z * p2 g) * p2 h := by grind
    rw [e1, e2, a, ← b]; grind
  exact Int.eq_of_mul_eq_mul_right (p2_ne g) h1
theorem Same4.trans {a b c d h a' b' c' d' h' a2 b2 c2 d2 h2 : Int} (s : Same4 a b c d h a' b' c' d' h') (t : Same4 a' b' c' d' h' a2 b2 c2 d2 h2) : Same4 a b c d h a2 b2 c2 d2 h2 :=
  ⟨s.e1.trans t.e1, s.e2.trans t.e2, s.e3.trans t.e3, s.e4.trans t.e4⟩
theorem Eq2.lift {x h y g : Int} (hh : 0 ≤ h) (hg : h ≤ g) (e : Eq2 x h y g) : y = x * p2 (g - h) := by
  unfold Eq2 at e
  rw [p2_sub hh hg] at e
  have : (x * p2 (g - h)) * p2 h = y * p2 h := by rw [← e]; grind
  exact (Int.eq_of_mul_eq_mul_right (p2_ne h) this).symm
theorem even_lift {x n : Int} (hn : 0 < n) : (x * p2 n) % 2 = 0 := by
  have e : p2 n = p2 (n - 1) * 2 := by
    rw [p2_sub (a := n) (b := 1) (by decide) (by omega)]
    rfl
  rw [e, ← Int.mul_assoc]
  omega
theorem Amt.unique_le {a b c d h a' b' c' d' h' : Int} (x : Amt a b c d h) (y : Amt a' b' c' d' h') (s : Same4 a b c d h a' b' c' d' h') (hle : h ≤ h') : a = a' ∧ b = b' ∧ c = c' ∧ d = d' ∧ h = h' := by
  have e1 := s.e1.lift x.nn hle
  have e2 := s.e2.lift x.nn hle
  have e3 := s.e3.lift x.nn hle
  have e4 := s.e4.lift x.nn hle
  have he : h = h' := by
    apply Classical.byContradiction
    intro hne
    have hp : 0 < h' - h := by omega
    have o := y.odd
    rw [e1, e2, e3, e4, even_lift hp, even_lift hp, even_lift hp, even_lift hp] at o
    have := x.nn
    omega
  subst he
  simp only [Int.sub_self, p2, Int.toNat_zero, Int.pow_zero, Int.mul_one] at e1 e2 e3 e4
  exact ⟨e1.symm, e2.symm, e3.symm, e4.symm, rfl⟩
theorem Amt.unique {a b c d h a' b' c' d' h' : Int} (x : Amt a b c d h) (y : Amt a' b' c' d' h') (s : Same4 a b c d h a' b' c' d' h') : a = a' ∧ b = b' ∧ c = c' ∧ d = d' ∧ h = h' := by
  rcases Int.le_total h h' with hle | hle
  · exact x.unique_le y s hle
  · obtain ⟨q1, q2, q3, q4, q5⟩ := y.unique_le x s.symm hle
    exact ⟨q1.symm, q2.symm, q3.symm, q4.symm, q5.symm⟩
abbrev orAll (a b c d : Int) : Int := Builtin.bitOr (Builtin.bitOr (Builtin.bitOr a b) c) d
theorem orAll_dvd {v : Nat} {a b c d : Int} : (2 : Int) ^ v ∣ orAll a b c d ↔ ((2 : Int) ^ v ∣ a ∧ (2 : Int) ^ v ∣ b ∧ (2 : Int) ^ v ∣ c ∧ (2 : Int) ^ v ∣ d) := by
  unfold orAll
  rw [Bt.or_dvd, Bt.or_dvd, Bt.or_dvd]
  constructor
  · rintro ⟨⟨⟨h1, h2⟩, h3⟩, h4⟩; exact ⟨h1, h2, h3, h4⟩
  · rintro ⟨h1, h2, h3, h4⟩; exact ⟨⟨⟨h1, h2⟩, h3⟩, h4⟩
theorem orAll_zero {a b c d : Int} : orAll a b c d = 0 ↔ (a = 0 ∧ b = 0 ∧ c = 0 ∧ d = 0) := by
  unfold orAll
  rw [Bt.or_zero, Bt.or_zero, Bt.or_zero]
  constructor
  · rintro ⟨⟨⟨h1, h2⟩, h3⟩, h4⟩; exact ⟨h1, h2, h3, h4⟩
  · rintro ⟨h1, h2, h3, h4⟩; exact ⟨⟨⟨h1, h2⟩, h3⟩, h4⟩
theorem lowest {a b c d : Int} (hp : orAll a b c d ≠ 0) : ∃ v : Nat, ((Builtin.Int.intBits (Builtin.bitAnd (orAll a b c d) (-(orAll a b c d))) : Nat) : Int) - 1 = v ∧ ((2 : Int) ^ v ∣ a ∧ (2 : Int) ^ v ∣ b ∧ (2 : Int) ^ v ∣ c ∧ (2 : Int) ^ v ∣ d) ∧
    ¬ ((2 : Int) ^ (v + 1) ∣ a ∧ (2 : Int) ^ (v + 1) ∣ b ∧ (2 : Int) ^ (v + 1) ∣ c ∧ (2 : Int) ^ (v + 1) ∣ d) := by
  obtain ⟨v, q, e, o, bb⟩ := Bt.low_bit _ (orAll a b c d) (Nat.lt_succ_self _) hp
  refine ⟨v, by rw [bb, Bt.bits_pow]; omega, orAll_dvd.mp ⟨q, e⟩, fun h => ?_⟩
  have h' := orAll_dvd.mpr h
  obtain ⟨k, hk⟩ := h'
  rw [e, Int.pow_succ, Int.mul_assoc] at hk
  have := Int.eq_of_mul_eq_mul_left (Int.ne_of_gt (Int.pow_pos (by decide) : (0 : Int) < 2 ^ v)) hk
  omega
theorem div_part {x h m : Int} (hm : 0 ≤ m) (hmh : m ≤ h) (hd : (2 : Int) ^ m.toNat ∣ x) : Eq2 x h (x / 2 ^ m.toNat) (h - m) ∧ (x / 2 ^ m.toNat).natAbs ≤ x.natAbs := by
  obtain ⟨k, rfl⟩ := hd
  have hne : (2 : Int) ^ m.toNat ≠ 0 := p2_ne m
  rw [Int.mul_ediv_cancel_left _ hne]
  constructor
  · unfold Eq2
    rw [p2_sub hm hmh]
    show 2 ^ m.toNat * k * p2 (h - m) = k * (p2 (h - m) * 2 ^ m.toNat)
    grind
  · rw [Int.natAbs_mul]
    exact Nat.le_mul_of_pos_left _ (by omega)
theorem dvd_le {x : Int} {m v : Nat} (h : m ≤ v) (hd : (2 : Int) ^ v ∣ x) : (2 : Int) ^ m ∣ x := by
  obtain ⟨k, rfl⟩ := hd
  refine ⟨2 ^ (v - m) * k, ?_⟩
  rw [← Int.mul_assoc, ← Int.pow_add, show m + (v - m) = v by omega]
theorem halve {a b c d h : Int} (hh : 0 ≤ h) {v : Nat} (hd : (2 : Int) ^ v ∣ a ∧ (2 : Int) ^ v ∣ b ∧ (2 : Int) ^ v ∣ c ∧ (2 : Int) ^ v ∣ d)
    (hn : ¬ ((2 : Int) ^ (v + 1) ∣ a ∧ (2 : Int) ^ (v + 1) ∣ b ∧ (2 : Int) ^ (v + 1) ∣ c ∧ (2 : Int) ^ (v + 1) ∣ d)) {m : Int} (hm : m = if h < v then h else v) :
    0 ≤ m ∧ m ≤ h ∧ Amt (a / 2 ^ m.toNat) (b / 2 ^ m.toNat) (c / 2 ^ m.toNat) (d / 2 ^ m.toNat) (h - m) ∧ Same4 a b c d h (a / 2 ^ m.toNat) (b / 2 ^ m.toNat) (c / 2 ^ m.toNat) (d / 2 ^ m.toNat) (h - m) ∧
    ((a / 2 ^ m.toNat).natAbs ≤ a.natAbs ∧ (b / 2 ^ m.toNat).natAbs ≤ b.natAbs ∧ (c / 2 ^ m.toNat).natAbs ≤ c.natAbs ∧ (d / 2 ^ m.toNat).natAbs ≤ d.natAbs) := by
  have m0 : 0 ≤ m := by rw [hm]; split <;> omega
  have m1 : m ≤ h := by rw [hm]; split <;> omega
  have mv : m.toNat ≤ v := by rw [hm]; split <;> omega
  obtain ⟨d1, d2, d3, d4⟩ := hd
  have q1 := div_part m0 m1 (dvd_le mv d1)
  have q2 := div_part m0 m1 (dvd_le mv d2)
  have q3 := div_part m0 m1 (dvd_le mv d3)
  have q4 := div_part m0 m1 (dvd_le mv d4)
  refine ⟨m0, m1, ⟨by omega, ?_⟩, ⟨q1.1, q2.1, q3.1, q4.1⟩, q1.2, q2.2, q3.2, q4.2⟩
  by_cases hlt : h < v
  · left
    rw [hm, if_pos hlt]
    omega
  · right
    have hmv : m.toNat = v := by rw [hm, if_neg hlt]; omega
    rw [hmv]
    have tail : ∀ x : Int, (2 : Int) ^ v ∣ x → ¬ (x / 2 ^ v) % 2 = 1 → (2 : Int) ^ (v + 1) ∣ x := by
      rintro x ⟨k, rfl⟩ ho
      have hne : (2 : Int) ^ v ≠ 0 := Int.ne_of_gt (Int.pow_pos (by decide))
      rw [Int.mul_ediv_cancel_left _ hne] at ho
      refine ⟨k / 2, ?_⟩
      rw [Int.pow_succ, Int.mul_assoc]
      congr 1
      omega
    apply Classical.byContradiction
    intro hno
    apply hn
    refine ⟨tail a d1 fun o => hno (.inl o), tail b d2 fun o => hno (.inr (.inl o)), tail c d3 fun o => hno (.inr (.inr (.inl o))), tail d d4 fun o => hno (.inr (.inr (.inr o)))⟩
end Am

set_option maxHeartbeats 4000000
/-! how many binary places of a number are at 1 -/
namespace Pc
open PySem PyProof.Rows
def pc (n : Nat) : Nat := if h : n = 0 then 0 else n % 2 + pc (n / 2)
theorem pc_zero : pc 0 = 0 := by unfold pc; simp
theorem pc_half (n : Nat) : pc n = n % 2 + pc (n / 2) := by
  by_cases h : n = 0
  · subst h; rw [show (0 / 2 : Nat) = 0 from rfl, pc_zero]
  · conv => lhs; unfold pc
    rw [dif_neg h]
theorem nat_xor (x y : Nat) : (x ^^^ y) = 2 * ((x / 2) ^^^ (y / 2)) + (x % 2 + y % 2) % 2 := by
  have h1 : (x ^^^ y) / 2 = (x / 2) ^^^ (y / 2) := Nat.xor_div_two
  have h2 : (x ^^^ y) % 2 = (x % 2 + y % 2) % 2 := by
    have := Nat.xor_mod_two_eq_one (a := x) (b := y)
    rcases Nat.mod_two_eq_zero_or_one x with a | a <;> rcases Nat.mod_two_eq_zero_or_one y with b | b <;> rcases Nat.mod_two_eq_zero_or_one (x ^^^ y) with c | c <;> simp [a, b, c] at this ⊢
  omega
theorem pc_drop : ∀ (m n : Nat), n < m → n ≠ 0 → pc (n &&& (n - 1)) + 1 = pc n
  | 0, n, h, _ => by omega
  | m + 1, n, h, hn => by
    have e := Bt.nat_and n (n - 1)
    rw [pc_half n, pc_half (n &&& (n - 1))]
    rcases Nat.mod_two_eq_zero_or_one n with a | a
    · have e1 : (n - 1) / 2 = n / 2 - 1 := by omega
      rw [e1, a, Nat.zero_mul] at e
      have e2 : (n &&& (n - 1)) / 2 = n / 2 &&& (n / 2 - 1) := by omega
      have e3 : (n &&& (n - 1)) % 2 = 0 := by omega
      rw [e2, e3, a]
      have := pc_drop m (n / 2) (by omega) (by omega)
      omega
    · have e1 : (n - 1) / 2 = n / 2 := by omega
      have e0 : (n - 1) % 2 = 0 := by omega
      rw [e1, e0, Nat.mul_zero, Nat.and_self] at e
      have e2 : (n &&& (n - 1)) / 2 = n / 2 := by omega
      have e3 : (n &&& (n - 1)) % 2 = 0 := by omega
      rw [e2, e3, a]
      omega
theorem pc_xor : ∀ (m x y : Nat), x < m → y < m → pc (x ^^^ y) % 2 = (pc x + pc y) % 2
  | 0, x, y, h, _ => by omega
  | m + 1, x, y, hx, hy => by
    by_cases z : x = 0 ∧ y = 0
    · obtain ⟨rfl, rfl⟩ := z
      rw [show (0 ^^^ 0 : Nat) = 0 from rfl, pc_zero]
    · have e := nat_xor x y
      rw [pc_half (x ^^^ y), pc_half x, pc_half y, show (x ^^^ y) / 2 = x / 2 ^^^ y / 2 by omega]
      by_cases q : x / 2 < m ∧ y / 2 < m
      · have := pc_xor m (x / 2) (y / 2) q.1 q.2
        omega
      · exfalso; omega
theorem pcx (x y : Nat) : pc (x ^^^ y) % 2 = (pc x + pc y) % 2 := pc_xor (x + y + 1) x y (by omega) (by omega)
theorem or_eq : ∀ (m x y : Nat), x < m → y < m → (x ||| y) = (x ^^^ y) + (x &&& y)
  | 0, x, y, h, _ => by omega
  | m + 1, x, y, hx, hy => by
    by_cases z : x = 0 ∧ y = 0
    · obtain ⟨rfl, rfl⟩ := z; rfl
    · have e := nat_xor x y
      have e1 := Bt.nat_and x y
      have e2 := Bt.nat_or x y
      by_cases q : x / 2 < m ∧ y / 2 < m
      · have := or_eq m (x / 2) (y / 2) q.1 q.2
        rcases Nat.mod_two_eq_zero_or_one x with a | a <;> rcases Nat.mod_two_eq_zero_or_one y with b | b <;> rw [a, b] at e e1 e2 <;> omega
      · exfalso; omega
theorem and_i (x y : Nat) : Builtin.bitAnd (x : Int) (y : Int) = ((x &&& y : Nat) : Int) := by rw [bitAnd_pp (by omega) (by omega)]; simp
theorem xor_i (x y : Nat) : Builtin.bitXor (x : Int) (y : Int) = ((x ^^^ y : Nat) : Int) := by
  have h : Builtin.bitXor (x : Int) (y : Int) = Builtin.bitOr x y - Builtin.bitAnd x y := rfl
  have h2 : Builtin.bitOr (x : Int) (y : Int) = ((x ||| y : Nat) : Int) := by
    unfold Builtin.bitOr
    rw [bitAnd_nn (by unfold Builtin.bitNot; omega) (by unfold Builtin.bitNot; omega), bitNot_bitNot, bitNot_bitNot, bitNot_bitNot]
    simp
  rw [h, h2, and_i, or_eq (x + y + 1) x y (by omega) (by omega)]
  omega
end Pc

set_option maxHeartbeats 4000000
namespace L2
open PySem PySem.Spec PyProof.Rows
theorem Same.tup {K : PySem.W.Frag} {H H' : Hp} {a : Addr} {xs : List V} (e : Same H H') (h : SqT K H a xs) : SqT K H' a xs := by
  rcases h with h | h
  · rcases h with h | ⟨o, h⟩
    · exact .inl (.inl (e _ _ h))
    · exact .inl (.inr ⟨o, e _ _ h⟩)
  · exact .inr h
theorem Same.sqx {t : Bool} {K : PySem.W.Frag} {H H' : Hp} {a : Addr} {xs : List V} (e : Same H H') (h : SqX t K H a xs) : SqX t K H' a xs := by
  cases t
  · exact e.seq (show SqL K H a xs from h)
  · exact e.tup (show SqT K H a xs from h)
section
variable {X : Cx} {scope : Scope} {Nc : List Str} {ex : List Addr} {pins : List (Addr × Obj)} {s : Shared} {H : Hp}
theorem ix_listC : IxR (cxLc X scope Nc ex pins s H) (rIxL X.K) := ix_list
theorem ix_tupC : IxR (cxLc X scope Nc ex pins s H) (rIxT X.K) := ix_tup
theorem pg_pairC {x y : Str} {k : Nat} {p1 p2 pos : Pos} (hc : (cxLc X scope Nc ex pins s H).calm = true) (hN : Nc.Nodup) (h0 : Nc[0]? = some x) (h1 : Nc[1]? = some y) (l0 : (cxLc X scope Nc ex pins s H).env.scope.names.lookup x = some .local) (l1 : (cxLc X scope Nc ex pins s H).env.scope.names.lookup y = some .local) :
    PG (cxLc X scope Nc ex pins s H) (.Tuple [.Name x p1, .Name y p2] k pos) (gTup X.K 2 (gCons (gName 0) (gCons (gName 1) gNil))) :=
  pg_tup (X := cxLc X scope Nc ex pins s H) hc (pgs_cons (pg_name (i := 0) hN h0 (.inl l0) (.inr l0)) (pgs_cons (pg_name (i := 1) hN h1 (.inl l1) (.inr l1)) pgs_nil))
end
theorem lc_zipI {t1 t2 : Bool} {K : PySem.W.Frag} {l1 l2 : Addr} {g : TG} {ns ms : List Int} {te : TE} {fr : St} {H1 : Hp} {acc : Addr} {Q : VK} (f : Int → Int → Int) (hxy : ns.length = ms.length) (hn : ns.length ≤ sizeLine)
    (h1 : SqX t1 K H1 l1 (ns.map V.int)) (h2 : SqX t2 K H1 l2 (ms.map V.int)) (hacc : H1 acc = none)
    (hg : ∀ {a : Addr} {x y : V} {w1 w2 : Option V} {H : Hp} {Q : St → Hp → Prop}, H a = some (.tup [x, y]) → Q (some x :: some y :: fr) H → g (.ref a) (w1 :: w2 :: fr) H Q)
    (hs : ∀ n m H (N : V → Hp → Prop), n ∈ ns → m ∈ ms → N (.int (f n m)) H → te (some (.int n) :: some (.int m) :: fr) H N)
    (hd : ∀ H2, Same H1 H2 → H2 acc = some (.lst ((List.zipWith f ns ms).map V.int)) → Q (.ref acc) H2) : LcW (Itz t1 t2 K l1 l2) g te (none :: none :: fr) H1 acc Q := by
  refine lc_zip (xs := ns.map V.int) (ys := ms.map V.int) (fun i zs H' => Same H1 H' ∧ H' acc = some (.lst zs) ∧ zs = ((List.zipWith f ns ms).take i).map V.int) (by simp [hxy]) (by simp; exact hn)
    ⟨same_new hacc _, upd_same, rfl⟩ (fun ha hQ => hg ha hQ) (fun i zs H p => ⟨p.1.sqx h1, p.1.sqx h2⟩) ?_ ?_
  · rintro i x y zs H T N hx hy hl ⟨s2, a2, e2⟩ hT kN
    rw [List.getElem?_map] at hx hy
    obtain ⟨n, hn1, rfl⟩ := Option.map_eq_some_iff.mp hx
    obtain ⟨m, hm1, rfl⟩ := Option.map_eq_some_iff.mp hy
    refine hs n m _ _ (List.mem_of_getElem? hn1) (List.mem_of_getElem? hm1) ?_
    have hTa : acc ≠ T := fun e => by rw [← e, a2] at hT; cases hT
    refine kN _ _ (by rw [upd_ne hTa]; exact a2) ⟨same_upd (s2.trans (same_new hT _)) hacc, upd_same, ?_⟩
    have : (List.zipWith f ns ms)[i]? = some (f n m) := by rw [List.getElem?_zipWith, hn1, hm1]
    rw [List.take_add_one, this, List.map_append, e2]
    rfl
  · rintro zs H hl ⟨s2, a2, e2⟩
    refine hd H s2 ?_
    rw [a2, e2, List.take_of_length_le]
    simp only [List.length_zipWith, List.length_map]
    omega
end L2
namespace L2
open PySem PySem.Spec PyProof.Rows
section
variable {K : PySem.W.Frag} {a : Addr} {ns : List Int} {te : TE} {fr : St} {H1 : Hp} {acc : Addr} {Q : VK}
theorem lc_pure {J : It} {n : Nat} {val : Nat → V} (f : Nat → V) (hn : n ≤ sizeLine) (hacc : H1 acc = none)
    (hgo : ∀ i H, i < n → Same H1 H → J.go i H ∧ ∀ x H', J.yld i H x H' → H' = H ∧ x = val i) (hst : ∀ H, Same H1 H → J.stop n H)
    (hs : ∀ i H (N : V → Hp → Prop), i < n → Same H1 H → N (f i) H → te (some (val i) :: fr) H N)
    (hd : ∀ H2, Same H1 H2 → H2 acc = some (.lst ((List.range n).map f)) → Q (.ref acc) H2) : LcW J (gName 0) te (none :: fr) H1 acc Q := by
  refine lc_by (val := val) (fun i ys H' => Same H1 H' ∧ H' acc = some (.lst ys) ∧ ys = (List.range i).map f) hn ⟨same_new hacc _, upd_same, rfl⟩ (fun i ys H hi p => hgo i H hi p.1) (fun ys H p => hst H p.1) ?_ ?_
  · rintro i ys H N hi hl ⟨s2, a2, e2⟩ kN
    refine hs i H N hi s2 (kN _ _ a2 ⟨same_upd s2 hacc, upd_same, ?_⟩)
    rw [e2, List.range_succ, List.map_append]
    rfl
  · rintro ys H hl ⟨s2, a2, e2⟩
    exact hd H s2 (by rw [a2, e2])
theorem range_map (ns : List Int) (f : Int → V) : (List.range ns.length).map (fun i => f (ns.getD i 0)) = ns.map f := by
  apply List.ext_getElem
  · simp
  · intro i h1 h2
    simp at h1
    simp [h1]
theorem lc_listP (f : Int → V) (hl : SqL K H1 a (ns.map V.int)) (hn : ns.length ≤ sizeLine) (hacc : H1 acc = none) (hs : ∀ n H (N : V → Hp → Prop), Same H1 H → N (f n) H → te (some (.int n) :: fr) H N)
    (hd : ∀ H2, Same H1 H2 → H2 acc = some (.lst (ns.map f)) → Q (.ref acc) H2) : LcW (Itl K a) (gName 0) te (none :: fr) H1 acc Q := by
  refine lc_pure (n := ns.length) (val := fun i => .int (ns.getD i 0)) (fun i => f (ns.getD i 0)) hn hacc (fun i H hi s => ?_) (fun H s => ⟨_, s.seq hl, by simp⟩) (fun i H N hi s kN => hs _ H N s kN) (fun H2 s h => hd H2 s (by rw [h, range_map]))
  have e : (ns.map V.int)[i]? = some (.int (ns.getD i 0)) := by simp [hi]
  refine ⟨⟨_, _, s.seq hl, e⟩, fun x H' y => ⟨y.1, ?_⟩⟩
  have := y.2 _ (s.seq hl)
  rw [e] at this
  exact (Option.some.inj this).symm
end
section
variable {X : Cx}
end
end L2
namespace L2
open PySem PySem.Spec PyProof.Rows
end L2

namespace L2
open PySem PySem.Spec PyProof.Rows

/-! ### lists of pairs as tables -/
section
variable {κ : Type} [DecidableEq κ]
def valV (kvs : List (κ × V)) (k : κ) : Option V := (kvs.find? fun kv => decide (kv.1 = k)).map (·.2)
theorem valV_nil {k : κ} : valV ([] : List (κ × V)) k = none := rfl
theorem valV_pos {p : κ × V} {r : List (κ × V)} {k : κ} (e : p.1 = k) : valV (p :: r) k = some p.2 := by simp [valV, List.find?_cons, e]
theorem valV_neg {p : κ × V} {r : List (κ × V)} {k : κ} (e : ¬ p.1 = k) : valV (p :: r) k = valV r k := by simp [valV, List.find?_cons, e]
theorem RelO.isSome_eq {o : Option V} {u : Option Value} (r : RelO o u) : o.isSome = u.isSome := by
  cases o with
  | none => cases u with
    | none => rfl
    | some _ => exact (show False from r).elim
  | some _ => cases u with
    | none => exact (show False from r).elim
    | some _ => rfl
theorem KV.val {kvs : List (κ × V)} {vs : List (κ × Value)} (r : KV kvs vs) (k : κ) : RelO (valV kvs k) (valueAt vs k) := by
  unfold KV at r
  induction r with
  | nil => exact True.intro
  | @cons p q ps qs h t ih =>
    obtain ⟨h1, h2⟩ := h
    by_cases e : p.1 = k
    · have e' : q.1 = k := h1.symm.trans e
      have b : valueAt (q :: qs) k = some q.2 := by simp [valueAt, List.find?_cons, e']
      rw [valV_pos e, b]; exact h2
    · have e' : ¬ q.1 = k := fun z => e (h1.trans z)
      have b : valueAt (q :: qs) k = valueAt qs k := by simp [valueAt, List.find?_cons, e']
      rw [valV_neg e, b]; exact ih
theorem KV.keys {kvs : List (κ × V)} {vs : List (κ × Value)} (r : KV kvs vs) : kvs.map (·.1) = vs.map (·.1) := by
  unfold KV at r
  induction r with
  | nil => rfl
  | cons h t ih => rw [List.map_cons, List.map_cons, ih, h.1]
end


/-! ### a tracked dict, its keys ints and texts or tuples of these -/
theorem kV_is {P : Program} {w : World} {k : Key} {u : Value} (r : RelV (kV k) u) : (mixKind P w).is k u = true := by
  cases k with
  | inl i => obtain ⟨t, e⟩ := (show ∃ t, u = Value.int i t from r); subst e; exact mixKind_int P w i t
  | inr x => obtain ⟨t, e⟩ := (show ∃ t, u = Value.str x t from r); subst e; exact mixKind_str P w x t
section
variable {P : Program} {w : World} {H : Hp} {h : Heap} {a : Addr}
end

section
variable {X : Cx} {pins : List (Addr × Obj)} {σ : St} {H : Hp} {s : Shared} {a : Addr} {y v : V} {u r : Value} {o : Option V} {A : Around} {E : Value → Shared → Prop}

end

section
variable {X : Cx} {pins : List (Addr × Obj)} {σ : St} {H : Hp} {s : Shared} {a : Addr} {kvs : List (Key × V)} {k : Key} {u : Value} {A : Around} {E : Value → Shared → Prop}
end


/-! ### readings and rules -/
def NoSl (i : Expr) : Prop := ∀ ov iv, subscripted i false ov iv = operate [ov, iv] (getItem ov iv)
theorem subD_of {prog : Program} {w : World} {A : Around} {E : Value → Shared → Prop} {s : Shared} {env : Env} {value slice : Expr} {pos : Pos} {T id : String} {Q : Value → Shared → Prop}
    (hl : typeLookup (.type T) "__getitem__" = pure (some (.builtin id))) (hs : NoSl slice)
    (h : wpAny (model prog w) A (eval value env) (fun o s₁ => wpAny (model prog w) A (eval slice env) (fun i s₂ => s₂.TypeIs o T ∧ wpAny (model prog w) A (getItem o i) Q E s₂) E s₁) E s) :
    wpAny (model prog w) A (eval (.Subscript value slice pos) env) Q E s := by
  refine Subscript_ (wpAny_mono h (fun o s₁ h₁ => wpAny_mono h₁ (fun i s₂ h₂ => ?_) fun _ _ x => x) fun _ _ x => x)
  obtain ⟨hT, h₂⟩ := h₂
  unfold subscriptTail
  refine wpAny_bind ?_
  rw [getitemInPython_of_ne hT.not_modules]
  refine wpAny_bind (wpAny_specialOf hT hl ?_)
  have fin : wpAny (model prog w) A (subscripted slice false o i) (fun r s₃ => wpAny (model prog w) A (letTemporaryGo value o r >>= fun _ => pure r) Q E s₃) E s₂ := by
    rw [hs o i]
    exact wpAny_operating (wpAny_mono h₂ (fun r s₃ h₃ => wpAny_bind (wpAny_letTemporaryGo (wpAny_pure h₃))) fun _ _ x => x)
  first
    | exact wpAny_pure (wpAny_bind fin)
    | exact wpAny_bind (wpAny_pure (wpAny_bind fin))
    | exact wpAny_bind fin

section
variable {X : Cx} {o i e value : Expr} {pos pos' tpos : Pos} {td ty tv : TE}
end


/-! ### displays -/
section
variable {X : Cx} {pos : Pos}
end

/-! ### methods -/
section
variable {X : Cx} {pins : List (Addr × Obj)} {σ : St} {H : Hp} {s : Shared} {a : Addr} {y d : V} {u r : Value} {o : Option V} {A : Around} {E : Value → Shared → Prop}
end

section
variable {X : Cx} {o e f : Expr} {apos cpos : Pos} {td ty tx : TE}
end

end L2

set_option maxHeartbeats 4000000
/-! boards: lists of tuples of ints; products of great ints; all(..) of bools; the script's weight -/
namespace L2
open PySem PySem.Spec PyProof.Rows
def CMulG (i j : Int) : Prop := ∃ a b, Sz a i ∧ Sz b j ∧ a + b ≤ 100000000
theorem CMulG.ok {i j : Int} (h : CMulG i j) : IntMulOk i j := by
  obtain ⟨a, b, h1, h2, h3⟩ := h
  have e1 := h1.bits
  have e2 := h2.bits
  unfold IntMulOk
  rw [show Builtin.Int.intTooBig (Builtin.Int.intBits i + Builtin.Int.intBits j) = false by
    unfold Builtin.Int.intTooBig
    have : bitsLine = 134217728 := rfl
    rw [this]
    exact decide_eq_false (by omega)]
  simp
section
variable {X : Cx}
theorem op_mulG : OpR X (binaryOp .Mult) (rI CMulG fun i j => .int (i * j)) := opI fun _ _ _ _ _ _ _ hc q => mul_int q hc.ok
theorem call_allL (hc : X.calm = true) : CallR X (.builtin "all") (fun xs H Q => ∃ (p : Addr) (bs : List Bool), xs = [.ref p] ∧ SqL X.K H p (bs.map V.bl) ∧ Q (.bl (bs.all id)) H) := by
  intro pins s σ H xs us Q I r h
  obtain ⟨p, bs, rfl, hq, q⟩ := h
  obtain ⟨u, rfl, ru⟩ := r.one
  cases ru
  obtain ⟨its, rv, pl, hz⟩ := I.list hq
  have hlen : its.length = bs.length := by rw [← rv.length, List.length_map]
  refine call_all_walk (wpAny_pyIter_list pl.isList ?_)
  have W := Walks.list (prog := X.prog) (w := X.w) (A := X.A.in1) (show X.A.in1.handled = none from I.ok.hd hc) s.heap.objs.size p (by
    obtain ⟨o, e, _⟩ := pl.isList
    exact Nat.ne_of_lt (Heap.lt_size e)) its.toArray
  refine ⟨s.heap.objs.size, _, _, _, _, _, fun i => bs.getD i false, rfl, W, ⟨⟨_, Heap.get?_push_size _ rfl, rfl, rfl⟩, pl.isList.push _⟩, ?_, fun h' tk hk => ?_⟩
  · intro i v s' Q' E' hv hQ
    have hv' : its[i]? = some v := by simpa using hv
    have hi : i < bs.length := by rw [← hlen]; exact (List.getElem?_eq_some_iff.mp hv').1
    obtain ⟨u, hu, ru⟩ := rv.get (show (bs.map V.bl)[i]? = some (.bl (bs.getD i false)) by simp [hi])
    rw [hv'] at hu
    cases hu
    cases ru
    exact wpAny_truthy_bool hQ
  · have e : (List.range its.toArray.size).all (fun i => bs.getD i false) = bs.all id := by
      rw [List.size_toArray, hlen, Bool.eq_iff_iff, List.all_eq_true, List.all_eq_true]
      constructor
      · intro z b hb
        obtain ⟨i, hi, rfl⟩ := List.mem_iff_getElem.mp hb
        have := z i (List.mem_range.mpr hi)
        simpa [hi] using this
      · intro z i hi
        have hi' : i < bs.length := List.mem_range.mp hi
        have := z bs[i] (List.getElem_mem hi')
        simpa [hi'] using this
    rw [e]
    refine ⟨.bl (bs.all id), H, ?_, rfl, q⟩
    exact I.kept (t' := tk) fun b o eo => hk b o (by simp; exact Nat.ne_of_lt (Heap.lt_size eo)) (Heap.get?_push_of_some _ eo)
end
/-! ### == of lists of tuples of ints -/
section
variable {P : Program} {w : World} {H : Hp} {h : Heap}
end
section
variable {X : Cx}
theorem canLay_rows : ∀ xs : List (List Int), PyData.canLayAll0 (xs.map fun ns => PyData.tuple (ns.map PyData.int)) = true
  | [] => by simp [PyData.canLayAll0]
  | n :: r => by simp [PyData.canLayAll0, PyData.canLay0, canLay_rows r, PySem.W.canLayAll0_ints n]
theorem depth_rows : ∀ xs : List (List Int), PyData.depthAll (xs.map fun ns => PyData.tuple (ns.map PyData.int)) ≤ 2
  | [] => by simp [PyData.depthAll]
  | n :: r => by
    have h1 := depth_rows r
    have h2 := PySem.W.depthAll_ints n
    simp only [List.map_cons, PyData.depthAll, PyData.depth]
    omega
theorem shaped_rows (xs : List (List Int)) : SeqAt.shaped (.list (xs.map fun ns => PyData.tuple (ns.map PyData.int))) = true := by
  have h2 : PyData.depth (.list (xs.map fun ns => PyData.tuple (ns.map PyData.int))) ≤ 64 := by
    have := depth_rows xs
    simp only [PyData.depth]
    omega
  show (PyData.canLay0 _ && decide _) = true
  rw [Bool.and_eq_true]
  exact ⟨by simp only [PyData.canLay0]; exact canLay_rows xs, decide_eq_true h2⟩
theorem noMix_rows : ∀ xs ys : List (List Int), SeqAt.noMixAll (xs.map fun ns => PyData.tuple (ns.map PyData.int)) (ys.map fun ns => PyData.tuple (ns.map PyData.int)) = true
  | [], [] => by simp [SeqAt.noMixAll]
  | [], _ :: _ => by simp [SeqAt.noMixAll]
  | _ :: _, [] => by simp [SeqAt.noMixAll]
  | n :: r, m :: q => by
    simp only [List.map_cons, SeqAt.noMixAll, SeqAt.noMix, Bool.and_eq_true]
    exact ⟨PySem.W.noMix_ints n m, noMix_rows r q⟩
theorem same_rows : ∀ xs ys : List (List Int), PySem.Spec.sameAll (xs.map fun ns => PyData.tuple (ns.map PyData.int)) (ys.map fun ns => PyData.tuple (ns.map PyData.int)) = decide (xs = ys)
  | [], [] => by simp [PySem.Spec.sameAll]
  | [], _ :: _ => by simp [PySem.Spec.sameAll]
  | _ :: _, [] => by simp [PySem.Spec.sameAll]
  | n :: r, m :: q => by
    simp only [List.map_cons, PySem.Spec.sameAll, PySem.Spec.same, PySem.W.same_ints, same_rows r q]
    by_cases e : n = m <;> simp [e]
end
section
variable {X : Cx} {scope : Scope} {Nc : List Str} {ex : List Addr} {pins : List (Addr × Obj)} {s : Shared} {H : Hp}
theorem op_eqTIC (hu : X.A.units + 64 < cLine) : OpR (cxLc X scope Nc ex pins s H) (compareOp .Eq) (rEqTI X.K false) := op_eqTI hu
end
end L2

set_option maxHeartbeats 4000000
/-! the script's ints weigh 2 ^ 20 places at most -/
namespace L2
open PySem PySem.W PySem.Calls PySem.Spec PyProof.Rows
def Light (ns : List Int) : Prop := ∀ n ∈ ns, Sz 1048576 n
theorem light_weight : ∀ {ns : List Int} {W : Nat}, WData.weightAll (ns.map WData.int) ≤ W → ∀ n ∈ ns, Sz W n
  | m :: r, W, h, n, hn => by
    simp only [List.map_cons, WData.weightAll, WData.weight] at h
    rcases List.mem_cons.mp hn with rfl | hn
    · unfold Sz
      by_cases z : n = 0
      · subst z; exact Nat.two_pow_pos _
      · have zb : (n == 0) = false := by simpa using z
        rw [zb, if_neg (by simp)] at h
        have h1 : n.natAbs.log2 < W := by omega
        exact (Nat.log2_lt (by omega)).mp h1
    · exact light_weight (W := W) (by omega) n hn
theorem light_of {ns : List Int} (h : WData.layableAll [WData.list (ns.map WData.int)] = true) : Light ns := by
  simp only [WData.layableAll, List.all_cons, List.all_nil, Bool.and_true, WData.layable, Bool.and_eq_true, decide_eq_true_eq] at h
  exact light_weight (W := 1048576) (by have := h.2; simpa [WData.weight] using this)
theorem attach_light {l : OpenLaw} {n : Nat} {q : Program} {loose : List Str} {XP : (Str → Option Value) → Heap → Prop} {YP : World → Heap → Prop} {d : DefRec}
    (hn : l.most = some n) (hdf : d.params.defaults = [])
    (call : ∀ (w : World) (s₀ s₁ : Shared) (mg mb : Str → Option Value) (fa : Addr) (o : Obj) (pm cd doc : Value) (a : Addr) (vs : List Value) (ns : List Int), Light ns →
      Ground q loose [] XP w s₀ mg mb s₁.heap → YP w s₁.heap →
      s₁.heap.get? fa = some o → o.data = .func (docDef d.name d.params d.body d.scope pm cd doc) → s₁.heap.CodeRec cd d.name → mg d.name = some (.ref fa) →
      s₁.heap.get? a = some { cls := .type "list", data := .seq vs.toArray } → IntsAre vs ns → ns.length ≤ n → s₁.gens = #[] →
      codeAny (model l.prog w) callerA (.call (.ref fa) ⟨[.ref a], []⟩) (fun r s' => r = .ok (.ret (.bool true)) ∧ OldK s₁.heap s'.heap ∧ s'.os = s₁.os ∧ AllBare s'.gens) s₁) :
    WalkO q loose XP YP l.row.toRowW d [] (fun f vs => PySem.call f vs) := by
  intro w s₀ s₁ mg mb G Y fa o pm cd doc dV kV ho hd hcd hD hmg hg args vals as hpre hlay hrd hwl hlo
  obtain rfl : dV = .none := Dflts.none hD hdf
  obtain rfl : kV = .none := Dflts.noKw hD
  obtain ⟨a, vs, ns, rfl, rfl, hobj, hints, hlen⟩ := Att.script_of hn hpre hwl
  refine enter_call (codeAny_mono (call w s₀ s₁ mg mb fa o pm cd doc a vs ns (light_of hlay) G Y ho (fd_plain hd) hcd hmg hobj hints hlen hg) fun r s' hq => ?_)
  obtain ⟨rfl, h2, h3, h4⟩ := hq
  exact ⟨.inl ⟨.bool true, .bool true, [], rfl, fun _ => rfl, .bool true, Att.post_true l _, fun _ => ⟨List.Pairwise.nil, fun _ hm => (nomatch hm)⟩⟩, h2, h3, h4⟩
theorem walk_light {l : PySem.W.OpenLaw} {n k : Nat} {q : Program} {loose : List Str} {XP : (Str → Option Value) → Heap → Prop} {YP : World → Heap → Prop} {d : DefRec} {K : Params → PySem.W.Frag} {CX : World → CXT} {sp : World → Sp} {x : Str}
    (hn : l.most = some n) (hn2 : n ≤ sizeLine) (hdf : d.params.defaults = []) (hr : Room k callerA)
    (hY : ∀ (w : World) (h : Heap), YP w h → (K w.params).In h)
    (F : ∀ (w : World) (mg : Str → Option Value) (fa : Addr) (h : Heap), (K w.params).In h → h.Ns mainGlobals mg → mg d.name = some (.ref fa) →
      ∃ fd : FuncData, (∀ (s : Shared) (u : Value), BindsTo s fd ⟨[u], []⟩ [(x, u)]) ∧
        ∀ base : Heap, (K w.params).In base → base.Ns mainGlobals mg → FnOk l.prog w (K w.params) mg base (CX w) k fa fd [x] (sp w))
    (hsp : ∀ (w : World) (H : Hp) (a : Addr) (ns : List Int), ns.length ≤ n → Light ns → SqL (K w.params) H a (ns.map V.int) → sp w [.ref a] H (fun v _ => v = .bl true) fun _ _ _ => False)
    (hCX : ∀ (w : World) (H : Hp) (s : Shared) (e : Value) (s' : Shared), CX w [] H s (fun _ _ _ => False) e s' → False) :
    PySem.W.WalkO q loose XP YP l.row.toRowW d [] (fun f vs => PySem.call f vs) := by
  refine attach_light hn hdf fun w s₀ s₁ mg mb fa o pm cd doc a vs ns lt G Y ho hd hcd hmg hobj hints hlen hg => ?_
  have KX := hY w _ Y
  obtain ⟨fd, hb, hF⟩ := F w mg fa _ KX G.T.g hmg
  exact law_call KX G.T.g G.T.b G.T.builtins G.T.nolimit hg hobj hints (Nat.le_trans hlen hn2) hr hF hb (fun H _ hS => hsp w H a ns hlen lt hS) fun H e s' => hCX w H s₁ e s'
end L2

set_option maxHeartbeats 4000000
/-! what the laws over boards share: amounts, boards, and what their helpers promise -/
namespace Ba
open PySem PySem.Spec PyProof.Rows L2 Am Pc
abbrev T5 (a b c d h : Int) : HO := .tup [.int a, .int b, .int c, .int d, .int h]
structure Red (a b c d h x y z u g : Int) : Prop where
  amt : Amt x y z u g
  same : Same4 a b c d h x y z u g
  s1 : x.natAbs ≤ a.natAbs
  s2 : y.natAbs ≤ b.natAbs
  s3 : z.natAbs ≤ c.natAbs
  s4 : u.natAbs ≤ d.natAbs
  le : g ≤ h
structure Sz4 (n : Nat) (a b c d : Int) : Prop where
  z1 : Sz n a
  z2 : Sz n b
  z3 : Sz n c
  z4 : Sz n d
theorem Red.sz {a b c d h x y z u g : Int} {n : Nat} (r : Red a b c d h x y z u g) (s : Sz4 n a b c d) : Sz4 n x y z u := ⟨s.z1.le r.s1, s.z2.le r.s2, s.z3.le r.s3, s.z4.le r.s4⟩
theorem Sz4.mono {m n : Nat} {a b c d : Int} (s : Sz4 m a b c d) (h : m ≤ n) : Sz4 n a b c d := ⟨s.z1.mono h, s.z2.mono h, s.z3.mono h, s.z4.mono h⟩
def rot : Nat → Int × Int × Int × Int → Int × Int × Int × Int
  | 0, v => v
  | n + 1, v => let (a, b, c, d) := rot n v; (-d, a, b, c)
abbrev T4 (v : Int × Int × Int × Int) (h : Int) : HO := T5 v.1 v.2.1 v.2.2.1 v.2.2.2 h
abbrev A5 := (Int × Int × Int × Int) × Int
abbrev tA (x : A5) : HO := T4 x.1 x.2
def spin (x : A5) (k : Int) : A5 := (rot (k % 8).toNat x.1, x.2)
structure Ok5 (n : Nat) (m : Int) (x : A5) : Prop where
  sz : Sz4 n x.1.1 x.1.2.1 x.1.2.2.1 x.1.2.2.2
  amt : Amt x.1.1 x.1.2.1 x.1.2.2.1 x.1.2.2.2 x.2
  le : x.2 ≤ m
theorem Ok5.mono {n n' : Nat} {m m' : Int} {x : A5} (o : Ok5 n m x) (h : n ≤ n') (h' : m ≤ m') : Ok5 n' m' x := ⟨o.sz.mono h, o.amt, Int.le_trans o.le h'⟩
theorem ok_rot {n : Nat} {m : Int} {v : Int × Int × Int × Int} {h : Int} (o : Ok5 n m (v, h)) : ∀ k, Ok5 n m (rot k v, h)
  | 0 => o
  | k + 1 => by
    have := ok_rot o k
    show Ok5 n m ((-(rot k v).2.2.2, (rot k v).1, (rot k v).2.1, (rot k v).2.2.1), h)
    refine ⟨⟨this.sz.z4.neg, this.sz.z1, this.sz.z2, this.sz.z3⟩, ⟨this.amt.nn, ?_⟩, this.le⟩
    have o : h = 0 ∨ (rot k v).1 % 2 = 1 ∨ (rot k v).2.1 % 2 = 1 ∨ (rot k v).2.2.1 % 2 = 1 ∨ (rot k v).2.2.2 % 2 = 1 := this.amt.odd
    show h = 0 ∨ (-(rot k v).2.2.2) % 2 = 1 ∨ (rot k v).1 % 2 = 1 ∨ (rot k v).2.1 % 2 = 1 ∨ (rot k v).2.2.1 % 2 = 1
    omega
def l5 (x : A5) : List Int := [x.1.1, x.1.2.1, x.1.2.2.1, x.1.2.2.2, x.2]
structure Hv (a b c d h x y z u g : Int) : Prop where
  same : Same4 a b c d h x y z u g
  s1 : x.natAbs ≤ a.natAbs
  s2 : y.natAbs ≤ b.natAbs
  s3 : z.natAbs ≤ c.natAbs
  s4 : u.natAbs ≤ d.natAbs
  le : g ≤ h
  nn : 0 ≤ g
theorem Hv.red {a b c d h x y z u g : Int} (v : Hv a b c d h x y z u g) (o : g = 0 ∨ x % 2 = 1 ∨ y % 2 = 1 ∨ z % 2 = 1 ∨ u % 2 = 1) : Red a b c d h x y z u g := ⟨⟨v.nn, o⟩, v.same, v.s1, v.s2, v.s3, v.s4, v.le⟩
theorem half_eq {x g : Int} (hx : x % 2 = 0) (hg : 0 < g) : Eq2 x g (x / 2) (g - 1) := by
  unfold Eq2
  have e : p2 g = p2 (g - 1) * 2 := by rw [p2_sub (a := g) (b := 1) (by decide) (by omega)]; rfl
  rw [e]
  have : x = 2 * (x / 2) := by omega
  generalize x / 2 = y at *
  subst this
  grind
theorem Hv.half {a b c d h x y z u g : Int} (v : Hv a b c d h x y z u g) (hg : 0 < g) (e : x % 2 = 0 ∧ y % 2 = 0 ∧ z % 2 = 0 ∧ u % 2 = 0) : Hv a b c d h (x / 2) (y / 2) (z / 2) (u / 2) (g - 1) := by
  obtain ⟨e1, e2, e3, e4⟩ := e
  have := v.s1; have := v.s2; have := v.s3; have := v.s4; have := v.le
  exact ⟨v.same.trans ⟨half_eq e1 hg, half_eq e2 hg, half_eq e3 hg, half_eq e4 hg⟩, by omega, by omega, by omega, by omega, by omega, by omega⟩
def cell (ns : List Int) (i : Int) : Int := if i < ns.length then ns.getD i.toNat 0 else 0
def spOnes : Sp := fun vs H Q _ => ∃ n : Nat, vs = [.int n] ∧ Q (.int (pc n)) H
def spCell (K : PySem.W.Frag) : Sp := fun vs H Q _ => ∃ (a : Addr) (ns : List Int) (i : Int), vs = [.ref a, .int i] ∧ SqL K H a (ns.map V.int) ∧ 0 ≤ i ∧ Q (.int (cell ns i)) H
def spWhole : Sp := fun vs H Q _ => ∃ i : Int, vs = [.int i] ∧ Q (.bl true) H
def spLow : Sp := fun vs H Q _ => ∃ (l : Addr) (a b c d h : Int), vs = [.ref l, .int h] ∧ H l = some (.lst ([a, b, c, d].map V.int)) ∧ 0 ≤ h ∧ ∀ (p : Addr) (H' : Hp) (x y z u g : Int), Same H H' → H' p = some (T5 x y z u g) → Red a b c d h x y z u g → Q (.ref p) H'
def spLaw (K : PySem.W.Frag) (n : Nat) : Sp := fun vs H Q _ => ∃ (a : Addr) (ns : List Int), vs = [.ref a] ∧ SqL K H a (ns.map V.int) ∧ ns.length ≤ n ∧ Light ns ∧ ∀ H', Q (.bl true) H'
theorem at_map {ns : List Int} {i : Int} (h0 : 0 ≤ i) (h : i < ns.length) : atI (ns.map V.int) i = some (.int (ns.getD i.toNat 0)) := by
  have hk : i.toNat < ns.length := by omega
  have ek : i = ((i.toNat : Nat) : Int) := by omega
  have q : atI (ns.map V.int) ((i.toNat : Nat) : Int) = some (.int ns[i.toNat]) := atI_nat (by rw [List.getElem?_map, List.getElem?_eq_getElem hk] <;> rfl)
  rw [← ek] at q
  rw [q, List.getD_eq_getElem?_getD, List.getElem?_eq_getElem hk]
  rfl
theorem t2 : 2 ≤ sizeLine := by decide
theorem t3 : 3 ≤ sizeLine := by decide
theorem t4 : 4 ≤ sizeLine := by decide
theorem t5 : 5 ≤ sizeLine := by decide
theorem t64 {n : Nat} (h : n ≤ 64) : n ≤ sizeLine := Nat.le_trans h (by decide)
theorem pow6 {n : Nat} (h : n ≤ 6) : 2 ^ n ≤ 64 := Nat.le_trans (Nat.pow_le_pow_right (by decide) h) (by decide)
theorem ipow (n : Nat) : (1 : Int) * 2 ^ ((n : Int).toNat) = ((2 ^ n : Nat) : Int) := by simp
theorem sz1 : Sz 1 1 := by decide +kernel
theorem p_2 : (0 : Int) < 2 := by decide
theorem p_4 : (0 : Int) < 4 := by decide
theorem kit_tt (K : PySem.W.Frag) : PySem.W.kitOne K (.type "tuple") (.type "tuple") = some true := by unfold PySem.W.kitOne; rw [if_pos (by decide)]
theorem kit_ll (K : PySem.W.Frag) : PySem.W.kitOne K (.type "list") (.type "list") = some true := by unfold PySem.W.kitOne; rw [if_pos (by decide)]
end Ba

set_option maxHeartbeats 4000000
namespace K73
open PySem PySem.Spec PyProof.Rows L2 Am Pc Ba
def top (i : Nat) : Stmt := PySem.Challenge.pw_spinboard_k73_images.main.body.getD i (.Pass ⟨0, 0, 0, 0⟩)
structure Bs (mg : Str → Option Value) : Prop where
  isinstance : mg "isinstance" = none
  int : mg "int" = none
  bool : mg "bool" = none
  tuple : mg "tuple" = none
  list : mg "list" = none
  len : mg "len" = none
  range : mg "range" = none
  all : mg "all" = none
  any : mg "any" = none
  max : mg "max" = none
  min : mg "min" = none
  zip : mg "zip" = none
  set : mg "set" = none
  str : mg "str" = none
  enumerate : mg "enumerate" = none
  reversed : mg "reversed" = none
section
variable {P : Program} {w : World} {K : PySem.W.Frag} {mg : Str → Option Value} {base : Heap} {k : Nat} {h : Heap}

theorem sc_cell : FnScope ["_law_script", "_law_k"] ["_law_script", "_law_k"] (defScope (top 52)) := ⟨rfl, rfl, rfl, by decide +kernel, rfl, by decide +kernel, by decide +kernel⟩
theorem ok_cell (F : FunAt K "_law_cell_at" (top 52) .none) (X : K.In h) (G : h.Ns mainGlobals mg) (B : Bs mg) : Cal P w K mg base (k + 1) "_law_cell_at" ["_law_script", "_law_k"] (spCell K) := by
  have nd := sc_cell.nd
  refine F.cal X G sc_cell (bnd2 fun _ _ _ _ _ _ _ _ => rfl) (fun vs H Q E h => ?_) (fun f cdv A outer s H vs Q E hr h => ?_)
  · obtain ⟨a, ns, i, rfl, _⟩ := h; rfl
  obtain ⟨a, ns, i, rfl, hS, h0, q⟩ := h
  refine ⟨_, (@pss_cons _ _ _ _ _ (ps_if (pt_cmpR op_lt (pv 1) (pe_callB call_len_seq rfl B.len PySem.boot_len (pa_cons (pv 0) pa_nil)) (nomark _))
      (@pss_one _ _ _ (ps_ret (pe_ix ix_list (pv 0) (pv 1) (fun _ _ => rfl))))
      pss_nil)
    (@pss_one _ _ _ (ps_ret pe_int))), ?_⟩
  try dsimp only [cxK]
  have hl : (ns.map V.int).length = ns.length := List.length_map _
  refine ⟨_, rfl, _, rfl, a, _, rfl, .inl hS, _, _, rfl, rfl, _, rfl, decI (fun c => ?_) (fun c => ?_)⟩
  · rw [hl] at c
    refine ⟨_, rfl, _, rfl, a, _, _, _, rfl, rfl, hS, at_map h0 c, ?_⟩
    unfold cell at q
    rw [if_pos c] at q
    exact q
  · rw [hl] at c
    unfold cell at q
    rw [if_neg c] at q
    exact q

end
end K73

set_option maxHeartbeats 4000000
namespace K73
open PySem PySem.Spec PyProof.Rows L2 Am Pc Ba
section
variable {P : Program} {w : World} {K : PySem.W.Frag} {mg : Str → Option Value} {base : Heap} {k : Nat} {h : Heap}

end
end K73

set_option maxHeartbeats 4000000
namespace K73
open PySem PySem.Spec PyProof.Rows L2 Am Pc Ba
section
variable {P : Program} {w : World} {K : PySem.W.Frag} {mg : Str → Option Value} {base : Heap} {k : Nat} {h : Heap}

def At5 (K : PySem.W.Frag) (H : Hp) (p : Addr) (x : A5) : Prop := SqT K H p ((l5 x).map V.int)
theorem At5.of {K : PySem.W.Frag} {H : Hp} {p : Addr} {x : A5} (h : H p = some (tA x)) : At5 K H p x := SqT.of h
theorem At5.same {K : PySem.W.Frag} {H H' : Hp} {p : Addr} {x : A5} (h : At5 K H p x) (s : Same H H') : At5 K H' p x := s.tup h
theorem At5.upd {K : PySem.W.Frag} {H : Hp} {p l : Addr} {x : A5} {xs ys : List V} (h : At5 K H p x) (e : H l = some (.lst xs)) : At5 K (upd H l (.lst ys)) p x := by
  rcases h with h | h
  · rcases h with h | ⟨o, h⟩
    · exact .inl (.inl (by rw [upd_ne (ne_of h e (by intro z; cases z))]; exact h))
    · exact .inl (.inr ⟨o, by rw [upd_ne (ne_of h e (by intro z; cases z))]; exact h⟩)
  · exact .inr h
def ValsK (K : PySem.W.Frag) (H : Hp) (ps : List Addr) (f : Nat → A5) : Prop := ∀ i p, ps[i]? = some p → At5 K H p (f i)
theorem ValsK.same {K : PySem.W.Frag} {H H' : Hp} {ps : List Addr} {f : Nat → A5} (v : ValsK K H ps f) (s : Same H H') : ValsK K H' ps f := fun i p e => (v i p e).same s
theorem vals_push {K : PySem.W.Frag} {H H' : Hp} {ps : List Addr} {f : Nat → A5} {p : Addr} {x : A5} (v : ValsK K H ps f) (s : Same H H') (e : At5 K H' p x) : ValsK K H' (ps ++ [p]) (fun j => if j = ps.length then x else f j) := by
  intro i q hq
  by_cases hi : i < ps.length
  · rw [List.getElem?_append_left hi] at hq
    show At5 K H' q (if i = ps.length then x else f i)
    rw [if_neg (by omega)]
    exact (v i q hq).same s
  · rw [List.getElem?_append_right (by omega)] at hq
    have hi2 : i = ps.length := by
      have := (List.getElem?_eq_some_iff.mp hq).1
      simp at this
      omega
    subst hi2
    simp at hq
    subst hq
    show At5 K H' _ (if ps.length = ps.length then x else f ps.length)
    rw [if_pos rfl]
    exact e
theorem vals_upd {K : PySem.W.Frag} {H : Hp} {ps : List Addr} {f : Nat → A5} {l : Addr} {xs ys : List V} (v : ValsK K H ps f) (e : H l = some (.lst xs)) : ValsK K (upd H l (.lst ys)) ps f := fun i q hq => (v i q hq).upd e
end
end K73

set_option maxHeartbeats 4000000
namespace K73
open PySem PySem.Spec PyProof.Rows L2 Am Pc Ba
theorem lc_tupM {K : PySem.W.Frag} {a : Addr} {ns : List Int} {te : TE} {fr : L2.St} {H1 : Hp} {acc : Addr} {Q : VK} (f : Int → V) (hl : SqT K H1 a (ns.map V.int)) (hn : ns.length ≤ sizeLine) (hacc : H1 acc = none) (hs : ∀ n H (N : V → Hp → Prop), n ∈ ns → Same H1 H → N (f n) H → te (some (.int n) :: fr) H N)
    (hd : ∀ H2, Same H1 H2 → H2 acc = some (.lst (ns.map f)) → Q (.ref acc) H2) : LcW (Itt K a) (gName 0) te (none :: fr) H1 acc Q := by
  refine lc_pure (n := ns.length) (val := fun i => .int (ns.getD i 0)) (fun i => f (ns.getD i 0)) hn hacc (fun i H hi s => ?_) (fun H s => ⟨_, s.tup hl, by simp⟩) (fun i H N hi s kN => hs _ H N (by simp [hi]) s kN) (fun H2 s h => hd H2 s (by rw [h, range_map]))
  have e : (ns.map V.int)[i]? = some (.int (ns.getD i 0)) := by simp [hi]
  refine ⟨⟨_, _, s.tup hl, e⟩, fun x H' y => ⟨y.1, ?_⟩⟩
  have := y.2 _ (s.tup hl)
  rw [e] at this
  exact (Option.some.inj this).symm
theorem cut54 : ¬ (HT.sIx 5 0 none = 0 ∧ HT.sIx 5 5 (some 4) = 5) := by decide
end K73

set_option maxHeartbeats 4000000
namespace K73
open PySem PySem.Spec PyProof.Rows L2 Am Pc Ba
def spHalf : Sp := fun vs H Q _ => ∃ a b c d h : Int, vs = [.int a, .int b, .int c, .int d, .int h] ∧ 0 ≤ h ∧ ∀ (p : Addr) (H' : Hp) (x y z u g : Int), Same H H' → H' p = some (T5 x y z u g) → Red a b c d h x y z u g → Q (.ref p) H'
def spRooted : Sp := fun vs H Q _ => ∃ (p : Addr) (a b c d h : Int), vs = [.ref p] ∧ H p = some (T5 a b c d h) ∧ 0 ≤ h ∧ ∀ (r : Addr) (H' : Hp) (x y z u g : Int), Same H H' → H' r = some (T5 x y z u g) → Red (b - d) (a + c) (b + d) (c - a) (h + 1) x y z u g → Q (.ref r) H'
def spOnceK (K : PySem.W.Frag) : Sp := fun vs H Q _ => ∃ (p : Addr) (a b c d h : Int), vs = [.ref p] ∧ At5 K H p ((a, b, c, d), h) ∧ ∀ (r : Addr) (H' : Hp), Same H H' → H' r = some (T5 (-d) a b c h) → Q (.ref r) H'
def spSpunK (K : PySem.W.Frag) : Sp := fun vs H Q _ => ∃ (p : Addr) (a b c d h k : Int), vs = [.ref p, .int k] ∧ At5 K H p ((a, b, c, d), h) ∧ ∀ (r : Addr) (H' : Hp), Same H H' → At5 K H' r (rot (k % 8).toNat (a, b, c, d), h) → Q (.ref r) H'
section
variable {P : Program} {w : World} {K : PySem.W.Frag} {mg : Str → Option Value} {base : Heap} {k : Nat} {h : Heap}
theorem sc_half : FnScope ["a", "b", "c", "d", "h", "places", "lowest", "less"] ["a", "b", "c", "d", "h"] (defScope (top 12)) := ⟨rfl, rfl, rfl, by decide +kernel, rfl, by decide +kernel, by decide +kernel⟩
theorem ok_half (F : FunAt K "halved_out" (top 12) .none) (X : K.In h) (G : h.Ns mainGlobals mg) (B : Bs mg) : Cal P w K mg base (k + 1) "halved_out" ["a", "b", "c", "d", "h"] spHalf := by
  have nd := sc_half.nd
  refine F.cal X G sc_half (bnd5 fun _ _ _ _ _ _ _ _ _ _ _ => rfl) (fun vs H Q E h => ?_) (fun f cdv A outer s H vs Q E hr h => ?_)
  · obtain ⟨a, b, c, d, h, rfl, _⟩ := h; rfl
  obtain ⟨a, b, c, d, h, rfl, h0, q⟩ := h
  refine ⟨_, (@pss_cons _ _ _ _ _ (@ps_set _ _ 5 _ _ _ _ nd rfl (Or.inl rfl) (pe_op op_or (pe_op op_or (pe_op op_or (pv 0) (pv 1)) (pv 2)) (pv 3)) rfl (.inl rfl))
    (@pss_cons _ _ _ _ _ (ps_if (pt_cmpR op_eq (pv 5) pe_int (nomark _))
      (@pss_one _ _ _ (ps_ret (@pe_tup _ _ _ _ _ (pa_cons pe_int (pa_cons pe_int (pa_cons pe_int (pa_cons pe_int (pa_cons pe_int pa_nil))))))))
      pss_nil)
    (@pss_cons _ _ _ _ _ (@ps_set _ _ 6 _ _ _ _ nd rfl (Or.inl rfl) (pe_op op_sub (pe_bm0 PySem.F.plainAttrs_int PySem.F.slot_int_bit_length PySem.F.type_int_bit_length mt_bitlen (pe_op op_and (pv 5) (pe_un un_neg (pv 5)))) pe_int) rfl (.inl rfl))
    (@pss_cons _ _ _ _ _ (@ps_set _ _ 7 _ _ _ _ nd rfl (Or.inl rfl) (pe_callB (call_min2 rfl) rfl B.min boot_min (pa_cons (pv 6) (pa_cons (pv 4) pa_nil))) rfl (.inl rfl))
    (@pss_one _ _ _ (ps_ret (@pe_tup _ _ _ _ _ (pa_cons (pe_op op_shr (pv 0) (pv 7)) (pa_cons (pe_op op_shr (pv 1) (pv 7)) (pa_cons (pe_op op_shr (pv 2) (pv 7)) (pa_cons (pe_op op_shr (pv 3) (pv 7)) (pa_cons (pe_op op_sub (pv 4) (pv 7)) pa_nil)))))))))))), ?_⟩
  try dsimp only [cxK]
  refine ⟨_, rfl, _, rfl, _, _, rfl, rfl, _, rfl, _, _, rfl, rfl, _, rfl, _, _, rfl, rfl, ?_⟩
  refine ⟨_, rfl, rfl, _, rfl, eqI (fun e => ?_) (fun e => ?_)⟩
  · obtain ⟨rfl, rfl, rfl, rfl⟩ := orAll_zero.mp e
    exact ⟨by show 5 ≤ sizeLine; decide, fun p hp => q p _ 0 0 0 0 0 (same_new hp _) upd_same ⟨⟨by omega, .inl rfl⟩, ⟨by simp [Eq2], by simp [Eq2], by simp [Eq2], by simp [Eq2]⟩, Nat.le_refl _, Nat.le_refl _, Nat.le_refl _, Nat.le_refl _, h0⟩⟩
  obtain ⟨v, ev, hd, hn⟩ := lowest e
  obtain ⟨m0, m1, ha, hs, b1, b2, b3, b4⟩ := halve h0 hd hn rfl
  have ev' : ((Builtin.Int.intBits (Builtin.bitAnd (Builtin.bitOr (Builtin.bitOr (Builtin.bitOr a b) c) d) (-(Builtin.bitOr (Builtin.bitOr (Builtin.bitOr a b) c) d))) : Nat) : Int) - 1 = v := ev
  refine ⟨_, rfl, _, rfl, _, rfl, _, _, rfl, rfl, rfl, _, rfl, rfl, _, _, rfl, rfl, ?_⟩
  show tSeq _ _ _ (List.set _ 6 (some (V.int (((Builtin.Int.intBits (Builtin.bitAnd (Builtin.bitOr (Builtin.bitOr (Builtin.bitOr a b) c) d) (-(Builtin.bitOr (Builtin.bitOr (Builtin.bitOr a b) c) d))) : Nat) : Int) - 1)))) H
  rw [ev']
  generalize hm : (if h < (v : Int) then h else (v : Int)) = m at *
  refine ⟨_, rfl, _, rfl, _, _, rfl, ?_⟩
  rw [hm]
  refine ⟨_, rfl, _, rfl, _, _, rfl, rfl, m0, _, rfl, _, rfl, _, _, rfl, rfl, m0, _, rfl, _, rfl, _, _, rfl, rfl, m0, _, rfl, _, rfl, _, _, rfl, rfl, m0, _, rfl, _, rfl, _, _, rfl, rfl, (by show 5 ≤ sizeLine; decide), fun p hp => ?_⟩
  exact q p _ _ _ _ _ _ (same_new hp _) upd_same ⟨ha, hs, b1, b2, b3, b4, by omega⟩
theorem sc_once : FnScope ["one"] ["one"] (defScope (top 16)) := ⟨rfl, rfl, rfl, by decide +kernel, rfl, by decide +kernel, by decide +kernel⟩
theorem ok_once (F : FunAt K "spun_once" (top 16) .none) (X : K.In h) (G : h.Ns mainGlobals mg) : Cal P w K mg base (k + 1) "spun_once" ["one"] (spOnceK K) := by
  have nd := sc_once.nd
  refine F.cal X G sc_once (bnd1 fun _ _ _ _ _ _ _ => rfl) (fun vs H Q E h => ?_) (fun f cdv A outer s H vs Q E hr h => ?_)
  · obtain ⟨p, a, b, c, d, h, rfl, _⟩ := h; rfl
  obtain ⟨p, a, b, c, d, h, rfl, hp, q⟩ := h
  have S : SqT K H p [.int a, .int b, .int c, .int d, .int h] := hp
  refine ⟨_, (@pss_one _ _ _ (ps_ret (@pe_tup _ _ _ _ _ (pa_cons (pe_un un_neg (pe_ix ix_tup (pv 0) pe_int (fun _ _ => rfl))) (pa_cons (pe_ix ix_tup (pv 0) pe_int (fun _ _ => rfl)) (pa_cons (pe_ix ix_tup (pv 0) pe_int (fun _ _ => rfl)) (pa_cons (pe_ix ix_tup (pv 0) pe_int (fun _ _ => rfl)) (pa_cons (pe_ix ix_tup (pv 0) pe_int (fun _ _ => rfl)) pa_nil)))))))), ?_⟩
  try dsimp only [cxK]
  refine ⟨_, rfl, p, _, _, _, rfl, rfl, S, rfl, _, rfl, _, rfl, p, _, _, _, rfl, rfl, S, rfl, _, rfl, p, _, _, _, rfl, rfl, S, rfl, _, rfl, p, _, _, _, rfl, rfl, S, rfl, _, rfl, p, _, _, _, rfl, rfl, S, rfl, (by show 5 ≤ sizeLine; decide), fun r hr => ?_⟩
  exact q r _ (same_new hr _) upd_same
theorem sc_rooted : FnScope ["one"] ["one"] (defScope (top 17)) := ⟨rfl, rfl, rfl, by decide +kernel, rfl, by decide +kernel, by decide +kernel⟩
theorem ok_rooted (F : FunAt K "rooted" (top 17) .none) (X : K.In h) (G : h.Ns mainGlobals mg) (c_halved_out : Cal P w K mg base k "halved_out" ["a", "b", "c", "d", "h"] spHalf) : Cal P w K mg base (k + 1) "rooted" ["one"] spRooted := by
  have nd := sc_rooted.nd
  refine F.cal X G sc_rooted (bnd1 fun _ _ _ _ _ _ _ => rfl) (fun vs H Q E h => ?_) (fun f cdv A outer s H vs Q E hr h => ?_)
  · obtain ⟨p, a, b, c, d, h, rfl, _⟩ := h; rfl
  obtain ⟨p, a, b, c, d, h, rfl, hp, h0, q⟩ := h
  have S : SqT K H p [.int a, .int b, .int c, .int d, .int h] := SqT.of hp
  refine ⟨_, (@pss_one _ _ _ (ps_ret (pe_cal c_halved_out hr rfl (pa_cons (pe_op op_sub (pe_ix ix_tup (pv 0) pe_int (fun _ _ => rfl)) (pe_ix ix_tup (pv 0) pe_int (fun _ _ => rfl))) (pa_cons (pe_op op_add (pe_ix ix_tup (pv 0) pe_int (fun _ _ => rfl)) (pe_ix ix_tup (pv 0) pe_int (fun _ _ => rfl))) (pa_cons (pe_op op_add (pe_ix ix_tup (pv 0) pe_int (fun _ _ => rfl)) (pe_ix ix_tup (pv 0) pe_int (fun _ _ => rfl))) (pa_cons (pe_op op_sub (pe_ix ix_tup (pv 0) pe_int (fun _ _ => rfl)) (pe_ix ix_tup (pv 0) pe_int (fun _ _ => rfl))) (pa_cons (pe_op op_add (pe_ix ix_tup (pv 0) pe_int (fun _ _ => rfl)) pe_int) pa_nil)))))))), ?_⟩
  try dsimp only [cxK]
  refine ⟨_, rfl, p, _, _, _, rfl, rfl, S, rfl, _, rfl, p, _, _, _, rfl, rfl, S, rfl, _, _, rfl, rfl, _, rfl, p, _, _, _, rfl, rfl, S, rfl, _, rfl, p, _, _, _, rfl, rfl, S, rfl, _, _, rfl, rfl,
    _, rfl, p, _, _, _, rfl, rfl, S, rfl, _, rfl, p, _, _, _, rfl, rfl, S, rfl, _, _, rfl, rfl, _, rfl, p, _, _, _, rfl, rfl, S, rfl, _, rfl, p, _, _, _, rfl, rfl, S, rfl, _, _, rfl, rfl, _, rfl, p, _, _, _, rfl, rfl, S, rfl, _, _, rfl, rfl, ?_⟩
  exact ⟨_, _, _, _, _, rfl, (by show 0 ≤ h + 1; omega), fun r H' x y z u g s1 e1 r1 => q r H' x y z u g s1 e1 r1⟩
theorem sc_spun : FnScope ["one", "k", "turning", "step"] ["one", "k"] (defScope (top 15)) := ⟨rfl, rfl, rfl, by decide +kernel, rfl, by decide +kernel, by decide +kernel⟩
theorem ok_spun (F : FunAt K "spun" (top 15) .none) (X : K.In h) (G : h.Ns mainGlobals mg) (B : Bs mg) (c_spun_once : Cal P w K mg base k "spun_once" ["one"] (spOnceK K)) : Cal P w K mg base (k + 1) "spun" ["one", "k"] (spSpunK K) := by
  have nd := sc_spun.nd
  refine F.cal X G sc_spun (bnd2 fun _ _ _ _ _ _ _ _ => rfl) (fun vs H Q E h => ?_) (fun f cdv A outer s H vs Q E hr h => ?_)
  · obtain ⟨p, a, b, c, d, h, k, rfl, _⟩ := h; rfl
  obtain ⟨p, a, b, c, d, h, j, rfl, hp, q⟩ := h
  have S : SqT K H p [.int a, .int b, .int c, .int d, .int h] := hp
  refine ⟨_, (@pss_cons _ _ _ _ _ (@ps_set _ _ 2 _ _ _ _ nd rfl (Or.inl rfl) (pv 0) rfl (.inl rfl))
    (@pss_cons _ _ _ _ _ (ps_for PassesOwn.never rfl (pi_range1 rfl B.range (pa_cons (pe_op op_mod (pv 1) pe_int) pa_nil)) (pg_name (i := 3) nd rfl (Or.inl rfl))
      (@pss_one _ _ _ (@ps_set _ _ 2 _ _ _ _ nd rfl (Or.inl rfl) (pe_cal c_spun_once hr rfl (pa_cons (pv 2) pa_nil)) rfl (.inl rfl))))
    (@pss_one _ _ _ (ps_ret (pv 2))))), ?_⟩
  try dsimp only [cxK]
  have j0 := Int.emod_nonneg j (show (8 : Int) ≠ 0 by decide)
  have j1 := Int.emod_lt_of_pos j (show (0 : Int) < 8 by decide)
  refine ⟨_, rfl, _, rfl, _, _, rfl, rfl, (by show (0 : Int) < 8; decide), _, rfl, (by omega), (by omega), for_range (n := (j % 8).toNat) (fun i σ H' => Same H H' ∧ ∃ t v, σ = [some (.ref p), some (.int j), some (.ref t), v] ∧ At5 K H' t (rot i (a, b, c, d), h)) ⟨Same.refl _, p, none, rfl, hp⟩ ?_ ?_⟩
  · rintro i σ H2 hi ⟨s2, t, v, rfl, ht⟩
    refine ⟨_, rfl, t, _, _, _, _, _, rfl, ht, fun r H' s3 e3 => ?_⟩
    exact ⟨s2.trans s3, r, _, rfl, At5.of e3⟩
  · rintro σ H2 ⟨s2, t, v, rfl, ht⟩
    exact ⟨_, rfl, q t H2 s2 ht⟩
end
end K73

set_option maxHeartbeats 4000000
namespace K73
open PySem PySem.Spec PyProof.Rows L2 Am Pc Ba
structure Sum (a b c d h a' b' c' d' h' x y z u g : Int) : Prop where
  amt : Amt x y z u g
  same : Same4 (a * p2 h' + a' * p2 h) (b * p2 h' + b' * p2 h) (c * p2 h' + c' * p2 h) (d * p2 h' + d' * p2 h) (h + h') x y z u g
  le : g ≤ max h h'
theorem sum_eq {a a' h h' m : Int} (h0 : 0 ≤ h) (h0' : 0 ≤ h') (hm : h ≤ m) (hm' : h' ≤ m) : Eq2 (a * p2 h' + a' * p2 h) (h + h') (a * 2 ^ (m - h).toNat + a' * 2 ^ (m - h').toNat) m := by
  unfold Eq2
  rw [p2_add h0 h0']
  show _ = (a * p2 (m - h) + a' * p2 (m - h')) * (p2 h * p2 h')
  have e1 := p2_sub h0 hm
  have e2 := p2_sub h0' hm'
  have l1 : (a * p2 h' + a' * p2 h) * p2 m = a * p2 h' * p2 m + a' * p2 h * p2 m := Int.add_mul ..
  rw [l1, show a * p2 h' * p2 m = a * p2 h' * (p2 (m - h) * p2 h) by rw [← e1], show a' * p2 h * p2 m = a' * p2 h * (p2 (m - h') * p2 h') by rw [← e2]]
  grind
theorem sz_pow (n : Nat) : Sz (n + 1) ((2 : Int) ^ n) := by
  unfold Sz
  rw [Int.natAbs_pow]
  exact Nat.pow_lt_pow_right (by decide) (Nat.lt_succ_self n)
theorem sum_sz {a a' h h' m : Int} {n N : Nat} (hm : m - h ≤ h' ∧ m - h' ≤ h) (z : Sz n a) (z' : Sz n a') (hN : n + h.toNat + h'.toNat + 2 ≤ N) : Sz N (a * 2 ^ (m - h).toNat + a' * 2 ^ (m - h').toNat) := by
  refine ((z.mul (sz_pow (m - h).toNat)).add (z'.mul (sz_pow (m - h').toNat))).mono ?_
  omega
structure In2 (K : PySem.W.Frag) (n : Nat) (vs : List V) (H : Hp) (p q : Addr) (a b c d h a' b' c' d' h' : Int) : Prop where
  vs : vs = [.ref p, .ref q]
  one : At5 K H p ((a, b, c, d), h)
  other : At5 K H q ((a', b', c', d'), h')
  h0 : 0 ≤ h
  h0' : 0 ≤ h'
  hh : h + h' ≤ 40000
  hn : n ≤ 500000
  z : Sz4 n a b c d
  z' : Sz4 n a' b' c' d'
def spPlusK (K : PySem.W.Frag) : Sp := fun vs H Q _ => ∃ n p q a b c d h a' b' c' d' h', In2 K n vs H p q a b c d h a' b' c' d' h' ∧ ∀ (r : Addr) (H' : Hp) (x y z u g : Int), Same H H' → H' r = some (T5 x y z u g) → Sum a b c d h a' b' c' d' h' x y z u g → Sz4 (n + h.toNat + h'.toNat + 2) x y z u → Q (.ref r) H'
def spMinusK (K : PySem.W.Frag) : Sp := fun vs H Q _ => ∃ n p q a b c d h a' b' c' d' h', In2 K n vs H p q a b c d h a' b' c' d' h' ∧ ∀ (r : Addr) (H' : Hp) (x y z u g : Int), Same H H' → H' r = some (T5 x y z u g) → Sum a b c d h (-a') (-b') (-c') (-d') h' x y z u g → Sz4 (n + h.toNat + h'.toNat + 2) x y z u → Q (.ref r) H'
section
variable {P : Program} {w : World} {K : PySem.W.Frag} {mg : Str → Option Value} {base : Heap} {k : Nat} {h : Heap}
theorem sc_plus : FnScope ["one", "other", "h", "up", "other_up", "sums"] ["one", "other"] (defScope (top 13)) := ⟨rfl, rfl, rfl, by decide +kernel, rfl, by decide +kernel, by decide +kernel⟩
theorem ok_plus (F : FunAt K "plus" (top 13) .none) (X : K.In h) (G : h.Ns mainGlobals mg) (B : Bs mg) (c_halved_out : Cal P w K mg base k "halved_out" ["a", "b", "c", "d", "h"] spHalf) : Cal P w K mg base (k + 1) "plus" ["one", "other"] (spPlusK K) := by
  have nd := sc_plus.nd
  refine F.cal X G sc_plus (bnd2 fun _ _ _ _ _ _ _ _ => rfl) (fun vs H Q E h => ?_) (fun f cdv A outer s H vs Q E hr h => ?_)
  · obtain ⟨n, p, q, a, b, c, d, h, a', b', c', d', h', I, _⟩ := h; rw [I.vs]; rfl
  obtain ⟨n, p, q, a, b, c, d, h, a', b', c', d', h', ⟨rfl, e1, e2, h0, h0', hh, hn, z, z'⟩, kq⟩ := h
  have S : SqT K H p [.int a, .int b, .int c, .int d, .int h] := e1
  have S' : SqT K H q [.int a', .int b', .int c', .int d', .int h'] := e2
  refine ⟨_, (@pss_cons _ _ _ _ _ (@ps_set _ _ 2 _ _ _ _ nd rfl (Or.inl rfl) (pe_callB (call_max2 rfl) rfl B.max boot_max (pa_cons (pe_ix ix_tup (pv 0) pe_int (fun _ _ => rfl)) (pa_cons (pe_ix ix_tup (pv 1) pe_int (fun _ _ => rfl)) pa_nil))) rfl (.inl rfl))
    (@pss_cons _ _ _ _ _ (@ps_set _ _ 3 _ _ _ _ nd rfl (Or.inr rfl) (pe_op op_sub (pv 2) (pe_ix ix_tup (pv 0) pe_int (fun _ _ => rfl))) rfl (.inl rfl))
    (@pss_cons _ _ _ _ _ (@ps_set _ _ 4 _ _ _ _ nd rfl (Or.inr rfl) (pe_op op_sub (pv 2) (pe_ix ix_tup (pv 1) pe_int (fun _ _ => rfl))) rfl (.inl rfl))
    (@pss_cons _ _ _ _ _ (ps_setLc (i := 5) rfl nd rfl rfl (LcOk.of (Nc := ["x", "y", "up", "other_up"]) (mp := [none, none, some 3, some 4]) (by kernel_rfl)) (pi_zip true true rfl B.zip (pa_cons (pe_slice sl_tup (pv 0) po_none (po_some pe_int)) (pa_cons (pe_slice sl_tup (pv 1) po_none (po_some pe_int)) pa_nil))) (fun _ _ _ _ => (pg_pairC rfl (show (["x", "y", "up", "other_up"] : List Str).Nodup by decide +kernel) rfl rfl rfl rfl)) (fun _ _ _ _ => (pe_op op_add (pe_op op_shlS (pv 0) (pv 2)) (pe_op op_shlS (pv 1) (pv 3)))) rfl)
    (@pss_one _ _ _ (ps_ret (pe_cal c_halved_out hr rfl (pa_cons (pe_ix ix_list (pv 5) pe_int (fun _ _ => rfl)) (pa_cons (pe_ix ix_list (pv 5) pe_int (fun _ _ => rfl)) (pa_cons (pe_ix ix_list (pv 5) pe_int (fun _ _ => rfl)) (pa_cons (pe_ix ix_list (pv 5) pe_int (fun _ _ => rfl)) (pa_cons (pv 2) pa_nil)))))))))))), ?_⟩
  try dsimp only [cxK]
  refine ⟨_, rfl, p, _, _, _, rfl, rfl, S, rfl, _, rfl, q, _, _, _, rfl, rfl, S', rfl, _, _, rfl, ?_⟩
  generalize hm : (if h' > h then h' else h) = m
  have m1 : h ≤ m := by rw [← hm]; split <;> omega
  have m2 : h' ≤ m := by rw [← hm]; split <;> omega
  have m3 : m - h ≤ h' ∧ m - h' ≤ h ∧ m ≤ h + h' := by rw [← hm]; split <;> omega
  refine ⟨_, rfl, _, rfl, p, _, _, _, rfl, rfl, S, rfl, _, _, rfl, rfl, ?_⟩
  refine ⟨_, rfl, _, rfl, q, _, _, _, rfl, rfl, S', rfl, _, _, rfl, rfl, ?_⟩
  refine ⟨_, rfl, 4, rfl, p, _, rfl, S, cut54, fun l1 hl1 => ?_⟩
  refine ⟨_, rfl, 4, rfl, q, _, rfl, (same_new hl1 _).tup S', cut54, fun l2 hl2 => ?_⟩
  have s2 : Same H (upd (upd H l1 (.tup ([a, b, c, d].map V.int))) l2 (.tup ([a', b', c', d'].map V.int))) := (same_new hl1 _).trans (same_new hl2 _)
  refine ⟨l1, l2, [a, b, c, d].map V.int, [a', b', c', d'].map V.int, rfl, (same_new hl2 _).tup (SqT.of upd_same), SqT.of upd_same, fun acc hacc => ?_⟩
  refine lc_zipI (K := K) (ns := [a, b, c, d]) (ms := [a', b', c', d']) (fr := [some (.int (m - h)), some (.int (m - h'))]) (fun x y => x * 2 ^ (m - h).toNat + y * 2 ^ (m - h').toNat) rfl (show 4 ≤ sizeLine by decide) ((same_new hl2 _).tup (SqT.of upd_same)) (SqT.of upd_same) hacc
    (fun ha hQ => ⟨_, _, rfl, SqT.of ha, rfl, _, _, rfl, _, _, rfl, rfl, hQ⟩) ?_ ?_
  · intro x y H2 N hx hy kN
    have zx : Sz n x := by
      simp only [List.mem_cons, List.not_mem_nil, or_false] at hx
      rcases hx with rfl | rfl | rfl | rfl
      · exact z.z1
      · exact z.z2
      · exact z.z3
      · exact z.z4
    have zy : Sz n y := by
      simp only [List.mem_cons, List.not_mem_nil, or_false] at hy
      rcases hy with rfl | rfl | rfl | rfl
      · exact z'.z1
      · exact z'.z2
      · exact z'.z3
      · exact z'.z4
    exact ⟨_, rfl, _, rfl, _, _, rfl, rfl, ⟨n, zx, (by omega), (by omega)⟩, _, rfl, _, rfl, _, _, rfl, rfl, ⟨n, zy, (by omega), (by omega)⟩, _, _, rfl, rfl, kN⟩
  intro H2 s3 a3
  have SA : SqL K H2 acc ((List.zipWith (fun x y => x * 2 ^ (m - h).toNat + y * 2 ^ (m - h').toNat) [a, b, c, d] [a', b', c', d']).map V.int) := SqL.of a3
  refine ⟨_, rfl, acc, _, _, _, rfl, rfl, SA, rfl, _, rfl, acc, _, _, _, rfl, rfl, SA, rfl, _, rfl, acc, _, _, _, rfl, rfl, SA, rfl, _, rfl, acc, _, _, _, rfl, rfl, SA, rfl, _, rfl, _, _, _, _, _, rfl, (by show 0 ≤ m; omega), fun r H' x y v u g s4 e4 r4 => ?_⟩
  have hN : n + h.toNat + h'.toNat + 2 ≤ n + h.toNat + h'.toNat + 2 := Nat.le_refl _
  have m4 : m - h ≤ h' ∧ m - h' ≤ h := ⟨m3.1, m3.2.1⟩
  refine kq r H' x y v u g (s2.trans (s3.trans s4)) e4 ⟨r4.amt, Same4.trans ⟨sum_eq h0 h0' m1 m2, sum_eq h0 h0' m1 m2, sum_eq h0 h0' m1 m2, sum_eq h0 h0' m1 m2⟩ r4.same, by have := r4.le; rw [← hm] at this; split at this <;> omega⟩ (r4.sz ⟨?_, ?_, ?_, ?_⟩)
  · exact sum_sz m4 z.z1 z'.z1 hN
  · exact sum_sz m4 z.z2 z'.z2 hN
  · exact sum_sz m4 z.z3 z'.z3 hN
  · exact sum_sz m4 z.z4 z'.z4 hN
theorem sc_minus : FnScope ["one", "other"] ["one", "other"] (defScope (top 14)) := ⟨rfl, rfl, rfl, by decide +kernel, rfl, by decide +kernel, by decide +kernel⟩
theorem ok_minus (F : FunAt K "minus" (top 14) .none) (X : K.In h) (G : h.Ns mainGlobals mg) (c_plus : Cal P w K mg base k "plus" ["one", "other"] (spPlusK K)) (c_spun : Cal P w K mg base k "spun" ["one", "k"] (spSpunK K)) : Cal P w K mg base (k + 1) "minus" ["one", "other"] (spMinusK K) := by
  have nd := sc_minus.nd
  refine F.cal X G sc_minus (bnd2 fun _ _ _ _ _ _ _ _ => rfl) (fun vs H Q E h => ?_) (fun f cdv A outer s H vs Q E hr h => ?_)
  · obtain ⟨n, p, q, a, b, c, d, h, a', b', c', d', h', I, _⟩ := h; rw [I.vs]; rfl
  obtain ⟨n, p, q, a, b, c, d, h, a', b', c', d', h', ⟨rfl, e1, e2, h0, h0', hh, hn, z, z'⟩, kq⟩ := h
  refine ⟨_, (@pss_one _ _ _ (ps_ret (pe_cal c_plus hr rfl (pa_cons (pv 0) (pa_cons (pe_cal c_spun hr rfl (pa_cons (pv 1) (pa_cons pe_int pa_nil))) pa_nil))))), ?_⟩
  try dsimp only [cxK]
  refine ⟨_, rfl, _, rfl, q, _, _, _, _, _, _, rfl, e2, fun r H2 s2 er => ?_⟩
  have er' : At5 K H2 r ((-a', -b', -c', -d'), h') := er
  exact ⟨n, p, r, a, b, c, d, h, -a', -b', -c', -d', h', ⟨rfl, e1.same s2, er', h0, h0', hh, hn, z, ⟨z'.z1.neg, z'.z2.neg, z'.z3.neg, z'.z4.neg⟩⟩, fun r' H3 x y v u g s3 => kq r' H3 x y v u g (s2.trans s3)⟩
end
end K73

set_option maxHeartbeats 4000000
/-! a dict of texts and ints that the program keeps under a global name -/
namespace L2
open PySem PySem.Spec PyProof.Rows
def TEnt (P : Params) (e : DictEntry) (p : Str × Int) : Prop := ∃ t u, e = ⟨PyData.keyHash P p.1, .str p.1 t, .int p.2 u⟩
structure KDic (K : PySem.W.Frag) (P : Params) (a : Addr) (kvs : List (Str × Int)) : Prop where
  ex : ∃ o es ep, K.lookup a = some o ∧ o.ExactDict ∧ o.data = .dict es ep ∧ Paired (TEnt P) es.toList kvs
  nd : (kvs.map (·.1)).Nodup
  ns : (a == sysModules) = false
def txt (p : Str × Int) : Key × V := (Sum.inr p.1, .int p.2)
theorem KDic.at {K : PySem.W.Frag} {prog : Program} {w : World} {a : Addr} {kvs : List (Str × Int)} {h : Heap} (D : KDic K w.params a kvs) (X : K.In h) : ∃ vs, KV (kvs.map txt) vs ∧ h.DictOf (mixKind prog w) a vs := by
  obtain ⟨o, es, ep, hl, hx, hd, hp⟩ := D.ex
  have key : ∀ {l : List DictEntry} {kvs : List (Str × Int)}, Paired (TEnt w.params) l kvs → ∃ vs : List (Key × Value), KV (kvs.map txt) vs ∧ Pairs (mixKind prog w) l vs := by
    intro l kvs h
    induction h with
    | nil => exact ⟨[], .nil, .nil⟩
    | @cons e p l kvs he hr ih =>
      obtain ⟨vs, a1, a2⟩ := ih
      obtain ⟨t, u, rfl⟩ := he
      exact ⟨(Sum.inr p.1, .int p.2 u) :: vs, .cons ⟨rfl, u, rfl⟩ a1, .cons (keyIs_str p.1 t) rfl a2⟩
  have all : ∀ {l : List DictEntry} {kvs : List (Str × Int)}, Paired (TEnt w.params) l kvs → ∀ e ∈ l, ∃ p, TEnt w.params e p := by
    intro l kvs h
    induction h with
    | nil => intro e he; cases he
    | @cons e p l kvs he hr ih =>
      intro e' h'
      rcases List.mem_cons.mp h' with rfl | h'
      · exact ⟨p, he⟩
      · exact ih e' h'
  obtain ⟨vs, a1, a2⟩ := key hp
  refine ⟨vs, a1, o, es, ep, X _ _ hl, hx, hd, ?_, a2, ?_⟩
  · intro e he
    obtain ⟨p, t, u, rfl⟩ := all hp e (Array.mem_toList_iff.mpr he)
    exact ⟨Sum.inr p.1, keyIs_str p.1 t, rfl⟩
  · rw [← a1.keys, List.map_map]
    have e : kvs.map ((fun kv => kv.1) ∘ txt) = (kvs.map (·.1)).map (Sum.inr : Str → Key) := by rw [List.map_map]; rfl
    rw [e]
    exact List.pairwise_map.mpr (D.nd.imp fun h z => h (Sum.inr.inj z))
def numAt (kvs : List (Str × Int)) (x : Str) : Option V := valV (kvs.map txt) (Sum.inr x)
def tKNotIn (kvs : List (Str × Int)) (ty : TE) : TE := fun σ H Q => ty σ H fun y H1 => ∃ x, y = .str x ∧ Q (.bl (!(numAt kvs x).isSome)) H1
def tKGet (kvs : List (Str × Int)) (ty : TE) : TE := fun σ H Q => ty σ H fun y H1 => ∃ x v, y = .str x ∧ numAt kvs x = some v ∧ Q v H1
section
variable {X : Cx} {o i : Expr} {pos : Pos} {ty : TE} {aN : Addr} {kvs : List (Str × Int)}
theorem pc_knotin (D : KDic X.K X.w.params aN kvs) (hi : PE X i ty) (ho : PE X o (tC (.ref aN))) : PC X .NotIn i o (tKNotIn kvs ty) := by
  intro pins s σ H Q I h
  refine thn (hi pins s σ H _ I h) fun iv s1 ⟨y, H1, I1, ry, x, ey, q1⟩ => thn (ho pins s1 σ H1 (fun v H2 => v = .ref aN ∧ H2 = H1) I1 ⟨rfl, rfl⟩) fun u s2 ⟨v, H2, I2, rv, ev, eh⟩ => ?_
  subst ev eh ey
  cases rv
  obtain ⟨vs, rel, dd⟩ := D.at (prog := X.prog) (w := X.w) I2.kIn
  refine wpAny_notIn_of (kV_is (k := Sum.inr x) ry) D.ns dd.mapOf ?_
  rw [← (rel.val (Sum.inr x)).isSome_eq]
  exact ⟨.bl _, H2, I2.tok _, rfl, q1⟩
theorem pe_kget (D : KDic X.K X.w.params aN kvs) (ho : PE X o (tC (.ref aN))) (hi : PE X i ty) (hs : NoSl i) : PE X (.Subscript o i pos) (tKGet kvs ty) := by
  intro pins s σ H Q I h
  refine subD_of PySem.F.slot_dict_getitem.lookup hs (thn (ho pins s σ H (fun v H2 => v = .ref aN ∧ H2 = H) I ⟨rfl, rfl⟩) fun u s1 ⟨v, H1, I1, rv, ev, eh⟩ => ?_)
  subst ev eh
  cases rv
  refine thn (hi pins s1 σ H1 _ I1 h) fun iv s2 ⟨y, H2, I2, ry, x, w', ey, g, q2⟩ => ?_
  subst ey
  obtain ⟨vs, rel, dd⟩ := D.at (prog := X.prog) (w := X.w) I2.kIn
  obtain ⟨u, hw, ru⟩ := RelO.some_of (v := w') (o := valueAt vs (Sum.inr x)) (by rw [← g]; exact rel.val (Sum.inr x))
  exact ⟨dd.typeIs, wpAny_getItem_of (kV_is (k := Sum.inr x) ry) dd.mapOf hw ⟨w', H2, I2.tok _, ru, q2⟩⟩
end
end L2

set_option maxHeartbeats 4000000
/-! set(a tuple of ints), and its len -/
namespace L2
open PySem PySem.Spec PyProof.Rows
abbrev unlike (ns : List Int) : Nat := (firstMet (fun i => ns.getD i 0) ns.length).length
abbrev fresh0 (led : Bool) : Obj := { cls := .type "set", dict := none, data := .set #[] 0 (.fresh 0 0 led) }
def SetEnd (prog : Program) (w : World) (s : Shared) (ns : List Int) (S : Int → Bool) (s' : Shared) : Prop :=
  ∃ h' tk, s' = { s with heap := h', toks := tk } ∧ h'.SetOf (intKind prog w) s.heap.objs.size S (unlike ns) ∧ ∀ b o, s.heap.get? b = some o → h'.get? b = some o
section
variable {prog : Program} {w : World} {A : Around} {E : Value → Shared → Prop} {s : Shared} {p : Addr} {its : Array Value} {ns : List Int}
theorem fill_tup (hh : A.handled = none) (ht : s.heap.IsTuple p its) (hi : IntsAre its.toList ns) (hb : ns.length + 1 < scanBound) (led : Bool) {R : Result → Shared → Prop}
    (h : ∀ s', SetEnd prog w s ns (fun k => (firstMet (fun i => ns.getD i 0) ns.length).any (· == k)) s' → R (.ok (.ret .none)) s') :
    codeAny (model prog w) A (.builtin "set.update.loop" ⟨[.ref s.heap.objs.size, .ref (s.heap.push (fresh0 led)).objs.size], []⟩) R { s with heap := (s.heap.push (fresh0 led)).push { cls := .type "tuple_iterator", data := .fields #[.ref p, .int 0 0] } } := by
  obtain ⟨o, ho, hc, n, hd⟩ := id ht
  have lt : p < s.heap.objs.size := Heap.lt_size ho
  have e1 : (s.heap.push (fresh0 led)).objs.size = s.heap.objs.size + 1 := Heap.size_push ..
  have hz : its.size = ns.length := by rw [← Array.length_toList]; exact hi.length
  have W := (Walks.tuple (prog := prog) (w := w) (A := A.in1) (by simp [hh]) (s.heap.push (fresh0 led)).objs.size p (by rw [e1]; exact Nat.ne_of_lt (Nat.lt_succ_of_lt lt)) its).toS
  have t1 : (s.heap.push (fresh0 led)).IsTuple p its := ⟨o, Heap.get?_push_of_some _ ho, hc, n, hd⟩
  refine codeAny_set_update_loopS W s.heap.objs.size (by rw [e1]; simp only [List.mem_cons, List.not_mem_nil, or_false, not_or]; exact ⟨Nat.ne_of_lt (Nat.lt_succ_self _), Nat.ne_of_gt lt⟩) (fun i => ns.getD i 0) (fun i v q => hi.int_at i v (by rw [Array.getElem?_toList]; exact q)) (by rw [hz]; exact hb) its.size 0 _ rfl (Nat.zero_le _)
    ⟨⟨_, Heap.get?_push_size _ rfl, rfl, rfl⟩, t1.push _⟩ ?_ ?_
  · have g : ((s.heap.push (fresh0 led)).push { cls := .type "tuple_iterator", data := .fields #[.ref p, .int 0 0] }).get? s.heap.objs.size = some (fresh0 led) := Heap.get?_push_of_some _ (Heap.get?_push_size _ rfl)
    exact SetOf_congr ((setObjOf_fresh (knd := intKind prog w) led).setOf g (by unfold scanBound; omega)) (fun _ => rfl) rfl
  · intro s' hm hS
    rw [hz] at hS
    obtain ⟨h', g', d', tk', os'⟩ := s'
    obtain rfl : g' = s.gens := hm.gens
    obtain rfl : d' = s.drawn := hm.drawn
    obtain rfl : os' = s.os := hm.os
    refine h _ ⟨h', tk', rfl, hS, fun b o e => ?_⟩
    have lb := Heap.lt_size e
    exact hm.heap b o (by rw [e1]; simp only [List.mem_cons, List.not_mem_nil, or_false, not_or]; exact ⟨Nat.ne_of_lt lb, Nat.ne_of_lt (Nat.lt_succ_of_lt lb)⟩) (Heap.get?_push_of_some _ (Heap.get?_push_of_some _ e))
theorem init_tup (hh : A.handled = none) (ht : s.heap.IsTuple p its) (hi : IntsAre its.toList ns) (hb : ns.length + 1 < scanBound) (led : Bool) {R : Value → Shared → Prop}
    (h : ∀ s', SetEnd prog w s ns (fun k => (firstMet (fun i => ns.getD i 0) ns.length).any (· == k)) s' → R .none s') :
    codeAny (model prog w) A (.call (.builtin "set.__init__") ⟨[.ref s.heap.objs.size, .ref p], []⟩) (wants R E) { s with heap := s.heap.push (fresh0 led) } := by
  have ty : Shared.TypeIs { s with heap := s.heap.push (fresh0 led) } (.ref s.heap.objs.size) "set" := ⟨_, Heap.get?_push_size _ rfl, rfl⟩
  obtain ⟨o, ho, hc, n, hd⟩ := id ht
  obtain ⟨ocls, odict, odata, oslots⟩ := o
  simp only at hc hd
  subst hc hd
  have ho1 : (s.heap.push (fresh0 led)).get? p = some { cls := .type "tuple", dict := odict, data := .seq its n, slots := oslots } := Heap.get?_push_of_some _ ho
  have t1 : (s.heap.push (fresh0 led)).IsTuple p its := ⟨_, ho1, rfl, n, rfl⟩
  have n1 := F.sub_tuple_set
  have n2 := F.sub_tuple_frozenset
  have n3 : (Value.type "tuple" == Value.type "dict") = false := by decide
  refine codeAny_call_builtin F.called_set.init.plain F.entry_set_init (check_set_init_1 ty ?_)
  unfold Builtin.«set.__init__» noKeywords Builtin.Frozenset.updateFrom
  generalize hP : pyIter = PI
  wp_walk
  subst hP
  refine wpAny_pyIter_tuple t1 (wpAny_bind (wpAny_runValue (fill_tup (by simp [hh]) ht hi hb led fun s' e => ?_)))
  exact wpAny_pure (wpAny_pure (h _ e))
theorem set_tup (hh : A.handled = none) (ht : s.heap.IsTuple p its) (hi : IntsAre its.toList ns) (hb : ns.length + 1 < scanBound) {Q : Value → Shared → Prop}
    (h : ∀ s', SetEnd prog w s ns (fun k => (firstMet (fun i => ns.getD i 0) ns.length).any (· == k)) s' → Q (.ref s.heap.objs.size) s') : wpAny (model prog w) A (call (.type "set") [.ref p]) Q E s := by
  obtain ⟨c, tl, hmro⟩ := F.called_set.mro
  have m1 := F.called_set.made
  have m2 := F.called_set.sub
  have m3 := F.called_set.notType
  have m4 := F.called_set.canCreate
  have m5 := F.typeCall_set_1 (.ref p)
  refine wpAny_call (codeAny_of_tree ?_)
  show wpAny _ _ (callAny (.type "set") _) _ _ _
  refine wpAny_pure ⟨Code.quiet_builtin _ (by decide +kernel), codeAny_builtin F.entry_type_call ?_⟩
  rw [Around.under_plain (weight_type_call_type "set" [.ref p] []) rfl]
  repeat any_goals first | assumption | wp_step
  refine codeAny_mono (code_set_new_1 (.ref p) (E := E) (Q₁ := fun ob s₁ => ∃ led : Bool, ob = .ref s.heap.objs.size ∧ s₁ = { s with heap := s.heap.push (fresh0 led) }) fun led => ⟨led, rfl, rfl⟩) fun r s₁ hr => ?_
  rcases r with e | fl
  · exact hr
  cases fl with
  | ret ob =>
    obtain ⟨led, rfl, rfl⟩ := hr
    have ty : Shared.TypeIs { s with heap := s.heap.push (fresh0 led) } (.ref s.heap.objs.size) "set" := ⟨_, Heap.get?_push_size _ rfl, rfl⟩
    have i1 := F.called_set.init.lookup
    have i2 := F.called_set.init.bind (.ref s.heap.objs.size)
    repeat any_goals first | assumption | wp_step
    refine codeAny_mono (init_tup (E := E) (R := fun r s' => r = .none ∧ SetEnd prog w s ns (fun k => (firstMet (fun i => ns.getD i 0) ns.length).any (· == k)) s') (by simp [hh]) ht hi hb led fun s' e => ⟨rfl, e⟩) fun r₂ s₂ hr₂ => ?_
    rcases r₂ with e | fl₂
    · exact hr₂
    cases fl₂ with
    | ret r =>
      obtain ⟨rfl, e⟩ := hr₂
      repeat any_goals first | assumption | wp_step
      exact h _ e
    | next => exact hr₂.elim
    | brk => exact hr₂.elim
    | cont => exact hr₂.elim
  | next => exact hr.elim
  | brk => exact hr.elim
  | cont => exact hr.elim
end
theorem ints_vals : ∀ {ns : List Int} {us : List Value}, Vals (ns.map V.int) us → IntsAre us ns
  | [], _, .nil => .nil
  | n :: ns, _, .cons r rs => by
    obtain ⟨t, rfl⟩ := r
    exact .cons n t (ints_vals rs)
section
variable {X : Cx}
theorem call_setT (hc : X.calm = true) : CallR X (.type "set") (fun xs H Q => ∃ (p : Addr) (ns : List Int), xs = [.ref p] ∧ SqT X.K H p (ns.map V.int) ∧ ns.length < 64 ∧ ∀ (l : Addr) (S : Int → Bool), H l = none → Q (.ref l) (upd H l (.set S (unlike ns)))) := by
  intro pins s σ H xs us Q I r h
  obtain ⟨p, ns, rfl, hS, h64, q⟩ := h
  obtain ⟨u, rfl, rx⟩ := vals1 r
  cases rx
  obtain ⟨its, rv, ht, _⟩ := I.tuple hS
  obtain ⟨o, ho, hcl, n, hd⟩ := ht
  refine set_tup (I.ok.hd hc) ⟨o, ho, hcl, n, hd⟩ (ns := ns) (ints_vals (by simpa using rv)) (by unfold scanBound; omega) fun s' ⟨h', tk, e, hs, hk⟩ => ?_
  subst e
  exact ⟨.ref s.heap.objs.size, _, I.laid (o := .set _ (unlike ns)) (t' := tk) hk (Nat.le_refl _) hs, rfl, q _ _ (I.hok.fresh (Nat.le_refl _))⟩
theorem call_lenS : CallR X (.builtin "len") (fun xs H Q => ∃ (p : Addr) (S : Int → Bool) (n : Nat), xs = [.ref p] ∧ H p = some (.set S n) ∧ n < 64 ∧ Q (.int n) H) := by
  intro pins s σ H xs us Q I r h
  obtain ⟨p, S, n, rfl, hp, h64, q⟩ := h
  obtain ⟨u, rfl, rx⟩ := vals1 r
  cases rx
  have hs : s.heap.SetOf (intKind X.prog X.w) p S n := I.hok p _ hp
  obtain ⟨o, ho, hso⟩ := hs.objOf
  obtain ⟨hex, es, ep, t, hd, _, _, hn, hf⟩ := hso
  subst hn
  exact call_len_set ho hex hd hf (by omega) ⟨.int es.size, H, (I.tok _).tok _, ⟨_, rfl⟩, q⟩
end
end L2

set_option maxHeartbeats 4000000
/-! slices of lists with a step -/
namespace L2
open PySem PySem.Spec PyProof.Rows
section
variable {X : Cx} {e st : Expr} {lo hi : Option Expr} {te : TE} {tl th ts : TO} {p2 pos : Pos}
end
end L2

set_option maxHeartbeats 4000000
namespace HT
open PySem PySem.Spec PyProof.Rows
section
variable {prog : Program} {w : World} {A : Around} {E : Value → Shared → Prop} {s : Shared}
theorem getItem_tuple_all {t sl : Addr} {items : Array Value} {vl vu : Value} {lo hi : Option Int} {Q : Value → Shared → Prop} (ht : IsTup s.heap t items) (hs : s.heap.IsSliceOf sl vl vu .none) (pl : IsPart vl lo) (pu : IsPart vu hi)
    (h1 : sIx items.size 0 lo = 0) (h2 : sIx items.size items.size hi = items.size) (h : Q (.ref t) s) : wpAny (model prog w) A (getItem (.ref t) (.ref sl)) Q E s := by
  obtain ⟨os, hos, hcs, hds⟩ := id hs
  have ty : s.TypeIs (.ref sl) "slice" := ⟨os, hos, hcs⟩
  unfold getItem
  try with_reducible refine wpAny_holding ?_
  first | refine wpAny_bind (wpAny_pure ?_) | skip
  refine wpAny_bind (wpAny_sequenceKey ht.typeIs (by decide) (wpAny_bind (wpAny_callSpecial?_slot (name := Str.ofString "__getitem__") ht.typeIs PyProof.Rows.slot_tuple_getitem (wpAny_call_entry PyProof.Rows.slot_tuple_getitem ht.typeIs entry_tuple_getitem ?_ (args_tuple_getitem _ _)))))
  show wpAny _ _ (Builtin.Tuple.tupleItemsOf (.ref t) >>= _) _ _ s; refine wpAny_bind (tupleItemsOf_ ht (wpAny_bind (wpAny_typeOf ty ?_))); rw [if_pos (by decide)]
  refine wpAny_bind (sliceApplied_gen hs pl pu ?_)
  show wpAny _ _ (if (((sIx items.size 0 lo : Nat) : Int) == 0 && (1 : Int) == 1 && (sIx items.size items.size hi - sIx items.size 0 lo) == items.size) = true then _ else _) _ _ s; rw [if_pos (by rw [h1, h2]; simp)]
  refine wpAny_bind ?_
  unfold Builtin.Tuple.tupleIsExact
  refine wpAny_bind (wpAny_typeOf ht.typeIs (wpAny_pure ?_))
  rw [if_pos (by decide)]
  exact wpAny_bind (wpAny_rule (wpAny_pure ⟨_, rfl, wpAny_pure h⟩))
end
end HT
namespace L2
open PySem PySem.Spec PyProof.Rows
section
variable {X : Cx}
def rSlA (K : PySem.W.Frag) : V → Option Int → Option Int → Hp → VK → Prop := fun x lo hi H Q => ∃ a xs, x = .ref a ∧ SqT K H a xs ∧
  ((HT.sIx xs.length 0 lo = 0 ∧ HT.sIx xs.length xs.length hi = xs.length) ∧ Q (.ref a) H ∨ ¬ (HT.sIx xs.length 0 lo = 0 ∧ HT.sIx xs.length xs.length hi = xs.length) ∧ ∀ p, H p = none → Q (.ref p) (upd H p (.tup (cutV xs lo hi))))
theorem sl_tupA : SlR X (rSlA X.K) := by
  intro pins s σ H x v vl vu lo hi sl Q I rx hs pl pu h
  obtain ⟨a, xs, rfl, hx, ⟨hw, q⟩ | ⟨hw, q⟩⟩ := h
  · cases rx
    obtain ⟨its, r, ht, hz⟩ := I.tuple hx
    have hlen := r.length
    refine ⟨"tuple", _, slot_tuple_getitem.lookup, ht.typeIs, HT.getItem_tuple_all ht hs pl pu (by rw [List.size_toArray, ← hlen]; exact hw.1) (by rw [List.size_toArray, ← hlen]; exact hw.2) ⟨.ref a, H, I, rfl, q⟩⟩
  · exact sl_tup pins s σ H _ v vl vu lo hi sl Q I rx hs pl pu ⟨a, xs, rfl, hx, hw, q⟩
end
end L2

set_option maxHeartbeats 4000000
/-! list comprehensions of one clause with one test -/
namespace L2
open PySem PySem.Spec PyProof.Rows
section
variable {X : Cx} {elt tg iter cond : Expr} {scope : Scope} {pos : Pos} {wi : TI} {g : TG} {tc : TT} {te : TE} {Nc : List Str} {mp : List (Option Nat)}
end
def tTruI (t : TE) : TT := fun σ H Q => t σ H fun x H' => ∃ i, x = .int i ∧ Q (i != 0) H'
theorem pt_truI {X : Cx} {a : Expr} {ta : TE} (ha : PE X a ta) (he : ∀ whole, isTrue a X.env whole = (do let v ← whole; standAt a.pos; holding [v] (truthy v))) : PT X a (tTruI ta) := by
  intro pins s σ H Q I h
  refine isTrue_plain (thn (ha pins s σ H _ I h) fun v s1 ⟨x, H1, I1, r1, i, e, q1⟩ => ?_) (he _)
  subst e
  exact tru_ok pins s1 σ H1 (.int i) v Q I1 r1 ⟨_, rfl, q1⟩
end L2

set_option maxHeartbeats 4000000
namespace K73
open PySem PySem.Spec PyProof.Rows L2 Am Pc Ba
theorem ps_never {X : Cx} {st : Stmt} : PS X st (fun _ _ _ => False) := fun _ _ _ _ _ _ h => h.elim
theorem unlike_nodup {ns : List Int} (h : ns.Nodup) : unlike ns = ns.length := by
  have key : ∀ i, i ≤ ns.length → (firstMet (fun i => ns.getD i 0) i).length = i := by
    intro i
    induction i with
    | zero => intro _; rfl
    | succ i ih =>
      intro hi
      rw [firstMet_succ, step_length, firstMet_any, if_neg, ih (by omega)]
      intro z
      obtain ⟨y, hy, e⟩ := List.any_eq_true.mp z
      obtain ⟨j, hj, rfl⟩ := List.mem_map.mp hy
      have hj := List.mem_range.mp hj
      have e : ns.getD j 0 = ns.getD i 0 := by simpa using e
      rw [List.getD_eq_getElem?_getD, List.getD_eq_getElem?_getD, List.getElem?_eq_getElem (by omega), List.getElem?_eq_getElem (by omega)] at e
      have := (List.getElem_inj h).mp e
      omega
  exact key _ (Nat.le_refl _)
abbrev NB : List (Str × Int) := [("flip", 1), ("mix", 1), ("turn", 2), ("if", 2), ("pair", 2), ("swap", 2), ("cross", 3)]
abbrev MvT (nm : Str) (ns : List Int) : HO := .tup (.str nm :: ns.map V.int)
def named (nm : Str) (ns : List Int) : List Int := if nm = "turn" then ns.take 1 else ns
structure Form (nm : Str) (ns : List Int) : Prop where
  num : numAt NB nm = some (.int ns.length)
  len : ns.length ≤ 3
  turn : nm = "turn" → ∃ a k, ns = [a, k] ∧ 1 ≤ k ∧ k ≤ 7
structure Fits (nm : Str) (ns : List Int) (c : Nat) : Prop where
  form : Form nm ns
  low : ∀ a ∈ named nm ns, 0 ≤ a ∧ a < c
  nd : (named nm ns).Nodup
def spHasForm : Sp := fun vs H Q _ => ∃ (p : Addr) (nm : Str) (ns : List Int), vs = [.ref p] ∧ H p = some (MvT nm ns) ∧ Form nm ns ∧ ∀ H', Same H H' → Q (.bl true) H'
def spNamed : Sp := fun vs H Q _ => ∃ (p : Addr) (nm : Str) (ns : List Int), vs = [.ref p] ∧ H p = some (MvT nm ns) ∧ Form nm ns ∧ ∀ (r : Addr) (H' : Hp), Same H H' → H' r = some (.tup ((named nm ns).map V.int)) → Q (.ref r) H'
def spCheck : Sp := fun vs H Q _ => ∃ (p : Addr) (nm : Str) (ns : List Int) (c : Nat), vs = [.ref p, .int c] ∧ H p = some (MvT nm ns) ∧ Fits nm ns c ∧ ∀ H', Same H H' → Q (.ref p) H'
def spCellsOf (K : PySem.W.Frag) : Sp := fun vs H Q _ => ∃ (l : Addr) (xs : List V) (c : Nat), vs = [.ref l] ∧ SqL K H l xs ∧ xs.length = 2 ^ c ∧ c ≤ 6 ∧ Q (.int c) H
theorem bits_pow {c : Nat} (h : c ≤ 6) : Builtin.Int.intBits (((2 ^ c : Nat) : Int)) = c + 1 := by
  have : c = 0 ∨ c = 1 ∨ c = 2 ∨ c = 3 ∨ c = 4 ∨ c = 5 ∨ c = 6 := by omega
  rcases this with rfl | rfl | rfl | rfl | rfl | rfl | rfl <;> decide +kernel
theorem at0 {x : V} {xs : List V} : atI (x :: xs) 0 = some x := atI_nat (show (x :: xs)[0]? = some x from rfl)
theorem one_ix {x : V} {xs : List V} : HT.sIx (x :: xs).length 0 (some 1) = 1 := by
  have := HT.sIx_nat (x :: xs).length 0 1
  rw [show ((1 : Nat) : Int) = 1 from rfl] at this
  rw [this]
  simp
theorem cut_one {x : V} {xs : List V} : cutV (x :: xs) (some 1) none = xs := by
  unfold cutV
  rw [one_ix]
  have e2 : HT.sIx (x :: xs).length (x :: xs).length none = (x :: xs).length := rfl
  rw [e2]
  simp
theorem kit_ss (K : PySem.W.Frag) : PySem.W.kitOne K (.type "str") (.type "str") = some true := by unfold PySem.W.kitOne; rw [if_pos (by decide)]
section
variable {P : Program} {w : World} {K : PySem.W.Frag} {mg : Str → Option Value} {base : Heap} {k : Nat} {h : Heap}
theorem sc_iswhole : FnScope ["thing"] ["thing"] (defScope (top 7)) := ⟨rfl, rfl, rfl, by decide +kernel, rfl, by decide +kernel, by decide +kernel⟩
theorem ok_iswhole (F : FunAt K "is_whole" (top 7) .none) (X : K.In h) (G : h.Ns mainGlobals mg) (B : Bs mg) : Cal P w K mg base (k + 1) "is_whole" ["thing"] spWhole := by
  have nd := sc_iswhole.nd
  refine F.cal X G sc_iswhole (bnd1 fun _ _ _ _ _ _ _ => rfl) (fun vs H Q E h => ?_) (fun f cdv A outer s H vs Q E hr h => ?_)
  · obtain ⟨i, rfl, _⟩ := h; rfl
  obtain ⟨i, rfl, q⟩ := h
  refine ⟨_, (@pss_one _ _ _ (ps_ret (pe_and (pe_callB call_isinst rfl B.isinstance boot_isinstance (pa_cons (pv 0) (pa_cons (pe_bltn (v := .ty "int") rfl B.int boot_int rfl) pa_nil))) (pe_one (pe_not (pe_callB call_isinst rfl B.isinstance boot_isinstance (pa_cons (pv 0) (pa_cons (pe_bltn (v := .ty "bool") rfl B.bool boot_bool rfl) pa_nil)))))))), ?_⟩
  try dsimp only [cxK]
  refine ⟨_, rfl, _, _, _, true, rfl, TyOf.int i, kit_ii K, _, rfl, iteT ?_⟩
  exact ⟨_, rfl, _, _, _, false, rfl, TyOf.int i, kit_ib K, _, rfl, q⟩
theorem sc_cellsof : FnScope ["board"] ["board"] (defScope (top 19)) := ⟨rfl, rfl, rfl, by decide +kernel, rfl, by decide +kernel, by decide +kernel⟩
theorem ok_cellsof (F : FunAt K "cells_of" (top 19) .none) (X : K.In h) (G : h.Ns mainGlobals mg) (B : Bs mg) : Cal P w K mg base (k + 1) "cells_of" ["board"] (spCellsOf K) := by
  have nd := sc_cellsof.nd
  refine F.cal X G sc_cellsof (bnd1 fun _ _ _ _ _ _ _ => rfl) (fun vs H Q E h => ?_) (fun f cdv A outer s H vs Q E hr h => ?_)
  · obtain ⟨l, xs, c, rfl, _⟩ := h; rfl
  obtain ⟨l, xs, c, rfl, hl, len, c6, q⟩ := h
  refine ⟨_, (@pss_one _ _ _ (ps_ret (pe_op op_sub (pe_bm0 PySem.F.plainAttrs_int PySem.F.slot_int_bit_length PySem.F.type_int_bit_length mt_bitlen (pe_callB call_len_seq rfl B.len PySem.boot_len (pa_cons (pv 0) pa_nil))) pe_int))), ?_⟩
  try dsimp only [cxK]
  refine ⟨_, rfl, l, _, rfl, .inl hl, rfl, _, rfl, rfl, _, _, rfl, rfl, ?_⟩
  show Q (.int (((Builtin.Int.intBits ((xs.length : Nat) : Int) : Nat) : Int) - 1)) H
  rw [len, bits_pow c6, show (((c + 1 : Nat) : Int) - 1) = (c : Int) by omega]
  exact q
theorem sc_named : FnScope ["move"] ["move"] (defScope (top 26)) := ⟨rfl, rfl, rfl, by decide +kernel, rfl, by decide +kernel, by decide +kernel⟩
theorem ok_named (F : FunAt K "named_cells" (top 26) .none) (X : K.In h) (G : h.Ns mainGlobals mg) (B : Bs mg) : Cal P w K mg base (k + 1) "named_cells" ["move"] spNamed := by
  have nd := sc_named.nd
  refine F.cal X G sc_named (bnd1 fun _ _ _ _ _ _ _ => rfl) (fun vs H Q E h => ?_) (fun f cdv A outer s H vs Q E hr h => ?_)
  · obtain ⟨p, nm, ns, rfl, _⟩ := h; rfl
  obtain ⟨p, nm, ns, rfl, hp, FO, kq⟩ := h
  have SP : SqT K H p (.str nm :: ns.map V.int) := SqT.of hp
  refine ⟨_, (@pss_one _ _ _ (ps_ret (pe_ifExp (pt_cmpR op_eq (pe_ix ix_tup (pv 0) pe_int (fun _ _ => rfl)) pe_str (nomark _)) (pe_slice sl_tupA (pv 0) (po_some pe_int) (po_some pe_int)) (pe_slice sl_tupA (pv 0) (po_some pe_int) po_none)))), ?_⟩
  try dsimp only [cxK]
  refine ⟨_, rfl, p, _, _, .str nm, rfl, rfl, SP, at0, rfl, _, rfl, decI (fun z => ?_) (fun z => ?_)⟩
  · have e : nm = "turn" := V.str.inj z
    obtain ⟨a, kk, rfl, _⟩ := FO.turn e
    refine ⟨_, rfl, _, rfl, _, rfl, p, _, rfl, SP, .inr ⟨fun c => absurd c.1 (by rw [one_ix]; decide), fun r hr => kq r _ (same_new hr _) ?_⟩⟩
    rw [upd_same]
    unfold named
    rw [if_pos e]
    rfl
  · have e : nm ≠ "turn" := fun c => z (by rw [c])
    refine ⟨_, rfl, _, rfl, p, _, rfl, SP, .inr ⟨fun c => absurd c.1 (by rw [one_ix]; decide), fun r hr => kq r _ (same_new hr _) ?_⟩⟩
    rw [upd_same, cut_one]
    unfold named
    rw [if_neg e]
theorem sc_form : FnScope ["thing"] ["thing"] (defScope (top 25)) := ⟨rfl, rfl, rfl, by decide +kernel, rfl, by decide +kernel, by decide +kernel⟩
theorem ok_form (F : FunAt K "has_move_form" (top 25) .none) (X : K.In h) (G : h.Ns mainGlobals mg) (B : Bs mg) {aN : Addr} (gN : mg "NUMBERS_BEHIND" = some (.ref aN)) (DN : KDic K w.params aN NB) (c_is_whole : Cal P w K mg base k "is_whole" ["thing"] spWhole) :
    Cal P w K mg base (k + 1) "has_move_form" ["thing"] spHasForm := by
  have nd := sc_form.nd
  refine F.cal X G sc_form (bnd1 fun _ _ _ _ _ _ _ => rfl) (fun vs H Q E h => ?_) (fun f cdv A outer s H vs Q E hr h => ?_)
  · obtain ⟨p, nm, ns, rfl, _⟩ := h; rfl
  obtain ⟨p, nm, ns, rfl, hp, FO, kq⟩ := h
  have SP : SqT K H p (.str nm :: ns.map V.int) := SqT.of hp
  have l3 := FO.len
  have lm : (V.str nm :: ns.map V.int).length = ns.length + 1 := by rw [List.length_cons, List.length_map]
  refine ⟨_, (@pss_cons _ _ _ _ _ (ps_if (PW.pt (pw_or (pt_not (pt_val (pe_callB call_isinst rfl B.isinstance boot_isinstance (pa_cons (pv 0) (pa_cons (pe_bltn (v := .ty "tuple") rfl B.tuple boot_tuple rfl) pa_nil))))) (pw_or1 (pt_cmpR op_eq (pe_callB call_len_seq rfl B.len PySem.boot_len (pa_cons (pv 0) pa_nil)) pe_int (nomark _)))))
      (@pss_one _ _ _ (ps_ret pe_bl))
      pss_nil)
    (@pss_cons _ _ _ _ _ (ps_if (PW.pt (pw_or (pt_not (pt_val (pe_callB call_isinst rfl B.isinstance boot_isinstance (pa_cons (pe_ix ix_tup (pv 0) pe_int (fun _ _ => rfl)) (pa_cons (pe_bltn (v := .ty "str") rfl B.str boot_str rfl) pa_nil))))) (pw_or1 (pt_cmp (pc_knotin DN (pe_ix ix_tup (pv 0) pe_int (fun _ _ => rfl)) (pe_glob (v := .ref aN) rfl gN rfl))))))
      (@pss_one _ _ _ (ps_ret pe_bl))
      pss_nil)
    (@pss_cons _ _ _ _ _ (ps_if (pt_cmpR op_ne (pe_callB call_len_seq rfl B.len PySem.boot_len (pa_cons (pv 0) pa_nil)) (pe_op op_add pe_int (pe_kget DN (pe_glob (v := .ref aN) rfl gN rfl) (pe_ix ix_tup (pv 0) pe_int (fun _ _ => rfl)) (fun _ _ => rfl))) (nomark _))
      (@pss_one _ _ _ (ps_ret pe_bl))
      pss_nil)
    (@pss_cons _ _ _ _ _ (ps_if (pt_not (pt_val (pe_callB (call_allL rfl) rfl B.all boot_all (pa_cons (pe_lc rfl (LcOk.of (Nc := ["number"]) (mp := [none]) (by kernel_rfl)) (pi_tup (pe_slice sl_tupA (pv 0) (po_some pe_int) po_none)) (fun _ _ _ _ => (pg_name (i := 0) (show (["number"] : List Str).Nodup by decide +kernel) rfl (Or.inl rfl))) (fun _ _ _ _ => (pe_cal c_is_whole hr rfl (pa_cons (pv 0) pa_nil)))) pa_nil))))
      (@pss_one _ _ _ (ps_ret pe_bl))
      pss_nil)
    (@pss_one _ _ _ (ps_ret (pe_or (pe_cmpR op_ne (pe_ix ix_tup (pv 0) pe_int (fun _ _ => rfl)) pe_str (nomark _)) (pe_one (pe_and (pe_cmpR op_ge (pe_ix ix_tup (pv 0) pe_int (fun _ _ => rfl)) pe_int (nomark _)) (pe_one (pe_cmpR op_le (pe_ix ix_tup (pv 0) pe_int (fun _ _ => rfl)) pe_int (nomark _)))))))))))), ?_⟩
  try dsimp only [cxK]
  refine ⟨_, rfl, _, _, _, true, rfl, TyOf.tup hp, kit_tt K, _, rfl, iteF ⟨_, rfl, p, _, rfl, .inr SP, rfl, _, rfl, eqI (fun z => absurd z (by rw [lm]; omega)) (fun _ => ?_)⟩⟩
  refine ⟨_, rfl, p, _, _, .str nm, rfl, rfl, SP, at0, _, _, _, true, rfl, TyOf.str nm, kit_ss K, _, rfl, iteF ⟨_, rfl, p, _, _, .str nm, rfl, rfl, SP, at0, nm, rfl, _, rfl, ?_⟩⟩
  rw [FO.num]
  refine iteF ⟨_, rfl, p, _, rfl, .inr SP, _, rfl, p, _, _, .str nm, rfl, rfl, SP, at0, nm, _, rfl, FO.num, _, _, rfl, rfl, rfl, _, rfl, neI (fun z => absurd (by rw [lm]; omega) z) (fun _ => ?_)⟩
  refine ⟨_, rfl, _, rfl, p, _, rfl, SP, .inr ⟨fun c => absurd c.1 (by rw [one_ix]; decide), fun r hr => ?_⟩⟩
  rw [cut_one]
  have s1 := same_new hr (.tup (ns.map V.int))
  refine ⟨r, rfl, ⟨_, SqT.of upd_same⟩, fun acc hacc => ?_⟩
  refine lc_tupM (K := K) (fun _ => .bl true) (SqT.of upd_same) (t64 (by omega)) hacc (fun n H2 N hn S2 kN => ⟨_, rfl, n, rfl, kN⟩) (fun H3 S3 a3 => ?_)
  have e : ns.map (fun _ => V.bl true) = (ns.map fun _ => true).map V.bl := by rw [List.map_map]; rfl
  rw [e] at a3
  have S03 := s1.trans S3
  have SP3 : SqT K H3 p (.str nm :: ns.map V.int) := SqT.of (S03 _ _ hp)
  refine ⟨acc, _, rfl, SqL.of a3, _, rfl, nblI (fun z => absurd z (by simp)) (fun _ => ?_)⟩
  refine ⟨_, rfl, p, _, _, .str nm, rfl, rfl, SP3, at0, rfl, _, rfl, nblI (fun _ => kq _ S03) (fun z => ?_)⟩
  obtain ⟨a, kk, rfl, k1, k7⟩ := FO.turn (V.str.inj (of_decide_eq_true z))
  refine ⟨_, rfl, p, _, _, .int kk, rfl, rfl, SP3, rfl, _, _, rfl, rfl, _, rfl, decI (fun _ => ?_) (fun z => absurd k1 z)⟩
  refine ⟨_, rfl, p, _, _, .int kk, rfl, rfl, SP3, rfl, _, _, rfl, rfl, ?_⟩
  show Q (.bl (decide (kk ≤ 7))) H3
  rw [decide_eq_true k7]
  exact kq _ S03
theorem sc_check : FnScope ["move", "cells", "named"] ["move", "cells"] (defScope (top 24)) := ⟨rfl, rfl, rfl, by decide +kernel, rfl, by decide +kernel, by decide +kernel⟩
theorem ok_check (F : FunAt K "check_move" (top 24) .none) (X : K.In h) (G : h.Ns mainGlobals mg) (B : Bs mg) (c_has_move_form : Cal P w K mg base k "has_move_form" ["thing"] spHasForm) (c_named_cells : Cal P w K mg base k "named_cells" ["move"] spNamed) :
    Cal P w K mg base (k + 1) "check_move" ["move", "cells"] spCheck := by
  have nd := sc_check.nd
  refine F.cal X G sc_check (bnd2 fun _ _ _ _ _ _ _ _ => rfl) (fun vs H Q E h => ?_) (fun f cdv A outer s H vs Q E hr h => ?_)
  · obtain ⟨p, nm, ns, c, rfl, _⟩ := h; rfl
  obtain ⟨p, nm, ns, c, rfl, hp, FI, kq⟩ := h
  have l3 : (named nm ns).length ≤ 3 := by
    have := FI.form.len
    unfold named
    split
    · rw [List.length_take]; omega
    · exact this
  refine ⟨_, (@pss_cons _ _ _ _ _ (ps_if (pt_not (pt_val (pe_cal c_has_move_form hr rfl (pa_cons (pv 0) pa_nil))))
      (@pss_one _ _ _ ps_never)
      pss_nil)
    (@pss_cons _ _ _ _ _ (@ps_set _ _ 2 _ _ _ _ nd rfl (Or.inl rfl) (pe_cal c_named_cells hr rfl (pa_cons (pv 0) pa_nil)) rfl (.inl rfl))
    (@pss_cons _ _ _ _ _ (ps_if (pt_val (pe_callB (call_anyL rfl) rfl B.any boot_any (pa_cons (pe_lc rfl (LcOk.of (Nc := ["cell", "cells"]) (mp := [none, some 1]) (by kernel_rfl)) (pi_tup (pv 2)) (fun _ _ _ _ => (pg_name (i := 0) (show (["cell", "cells"] : List Str).Nodup by decide +kernel) rfl (Or.inl rfl))) (fun _ _ _ _ => (pe_or (pe_cmpR op_lt (pv 0) pe_int (nomark _)) (pe_one (pe_cmpR op_ge (pv 0) (pv 1) (nomark _)))))) pa_nil)))
      (@pss_one _ _ _ ps_never)
      pss_nil)
    (@pss_cons _ _ _ _ _ (ps_if (pt_cmpR op_ne (pe_callB call_lenS rfl B.len PySem.boot_len (pa_cons (pe_callTy (call_setT rfl) rfl B.set boot_set (pa_cons (pv 2) pa_nil)) pa_nil)) (pe_callB call_len_seq rfl B.len PySem.boot_len (pa_cons (pv 2) pa_nil)) (nomark _))
      (@pss_one _ _ _ ps_never)
      pss_nil)
    (@pss_one _ _ _ (ps_ret (pv 0))))))), ?_⟩
  try dsimp only [cxK]
  refine ⟨_, rfl, p, nm, ns, rfl, hp, FI.form, fun H1 S1 => ⟨_, rfl, iteF ?_⟩⟩
  refine ⟨_, rfl, p, nm, ns, rfl, S1 _ _ hp, FI.form, fun r H2 S2 hr => ?_⟩
  have SR : SqT K H2 r ((named nm ns).map V.int) := SqT.of hr
  refine ⟨_, rfl, r, rfl, ⟨_, SR⟩, fun acc hacc => ?_⟩
  refine lc_tupM (K := K) (fun _ => .bl false) SR (t64 (by omega)) hacc (fun n H2 N hn S2 kN => ?_) (fun H3 S3 a3 => ?_)
  · obtain ⟨n0, nc⟩ := FI.low n hn
    refine ⟨_, rfl, _, _, rfl, rfl, _, rfl, decI (fun z => absurd z (by omega)) (fun _ => ?_)⟩
    refine ⟨_, rfl, _, rfl, _, _, rfl, rfl, ?_⟩
    show N (.bl (decide ((c : Int) ≤ n))) _
    rw [decide_eq_false (by omega)]
    exact kN
  have e : (named nm ns).map (fun _ => V.bl false) = ((named nm ns).map fun _ => false).map V.bl := by rw [List.map_map]; rfl
  rw [e] at a3
  refine ⟨acc, _, rfl, SqL.of a3, _, rfl, ?_⟩
  rw [show ((named nm ns).map fun _ => false).any id = false by simp]
  refine iteF ?_
  refine ⟨_, rfl, r, _, rfl, S3.tup SR, by omega, fun l S hl => ?_⟩
  have s4 := same_new hl (.set S (unlike (named nm ns)))
  have un := unlike_nodup FI.nd
  refine ⟨l, S, _, rfl, upd_same, by omega, _, rfl, r, _, rfl, .inr (s4.tup (S3.tup SR)), rfl, _, rfl, neI (fun z => absurd (by rw [un, List.length_map]) z) (fun _ => ?_)⟩
  exact ⟨_, rfl, kq _ (((S1.trans S2).trans S3).trans s4)⟩
end
end K73

set_option maxHeartbeats 4000000
namespace K73
open PySem PySem.Spec PyProof.Rows L2 Am Pc Ba
/-! moves that change places, over words -/
inductive Mv where
  | flip (a : Nat)
  | turn (a k : Nat)
  | iff (a b : Nat)
  | pair (a b : Nat)
  | swap (a b : Nat)
  | cross (a b d : Nat)
def exch (w a b : Nat) : Nat := if w &&& (2 ^ a ||| 2 ^ b) = 2 ^ a ∨ w &&& (2 ^ a ||| 2 ^ b) = 2 ^ b then w ^^^ (2 ^ a ||| 2 ^ b) else w
namespace Mv
def nm : Mv → Str
  | flip _ => "flip"
  | turn _ _ => "turn"
  | iff _ _ => "if"
  | pair _ _ => "pair"
  | swap _ _ => "swap"
  | cross _ _ _ => "cross"
def ns : Mv → List Int
  | flip a => [(a : Int)]
  | turn a k => [(a : Int), (k : Int)]
  | iff a b => [(a : Int), (b : Int)]
  | pair a b => [(a : Int), (b : Int)]
  | swap a b => [(a : Int), (b : Int)]
  | cross a b d => [(a : Int), (b : Int), (d : Int)]
def Ok (c : Nat) : Mv → Prop
  | flip a => a < c
  | turn a k => a < c ∧ 1 ≤ k ∧ k ≤ 7
  | iff a b => a < c ∧ b < c ∧ a ≠ b
  | pair a b => a < c ∧ b < c ∧ a ≠ b
  | swap a b => a < c ∧ b < c ∧ a ≠ b
  | cross a b d => a < c ∧ b < c ∧ d < c ∧ a ≠ b ∧ a ≠ d ∧ b ≠ d
def to (w : Nat) : Mv → Nat
  | flip a => w ^^^ 2 ^ a
  | iff a b => if w &&& 2 ^ a = 0 then w else w ^^^ 2 ^ b
  | swap a b => exch w a b
  | cross a b d => if w &&& 2 ^ a = 0 then w else exch w b d
  | _ => w
def sp (w : Nat) : Mv → Nat
  | turn a k => if w &&& 2 ^ a = 2 ^ a then k else 0
  | pair a b => if w &&& (2 ^ a ||| 2 ^ b) = (2 ^ a ||| 2 ^ b) then 4 else 0
  | _ => 0
end Mv
abbrev at2 (w a : Nat) : Nat := w / 2 ^ a % 2
def c1 (c a w : Nat) : Bool := decide ((Mv.flip a).to w < 2 ^ c) && decide ((Mv.flip a).to ((Mv.flip a).to w) = w) && decide ((w : Int) + (1 - 2 * (at2 w a : Int)) * ((2 ^ a : Nat) : Int) = ((Mv.flip a).to w : Nat)) &&
  decide ((if w &&& 2 ^ a = 2 ^ a then 1 else 0) = at2 w a)
def c2 (c a b w : Nat) : Bool := decide (a = b) || (decide ((Mv.iff a b).to w < 2 ^ c) && decide ((Mv.iff a b).to ((Mv.iff a b).to w) = w) && decide ((w : Int) + (at2 w a : Int) * (1 - 2 * (at2 w b : Int)) * ((2 ^ b : Nat) : Int) = ((Mv.iff a b).to w : Nat)) &&
  decide ((Mv.swap a b).to w < 2 ^ c) && decide ((Mv.swap a b).to ((Mv.swap a b).to w) = w) && decide ((w : Int) + ((at2 w b : Int) - (at2 w a : Int)) * (((2 ^ a : Nat) : Int) - ((2 ^ b : Nat) : Int)) = ((Mv.swap a b).to w : Nat)) &&
  decide (4 * at2 w a * at2 w b = (Mv.pair a b).sp w))
def c3 (c a b d w : Nat) : Bool := decide (a = b) || decide (a = d) || decide (b = d) || (decide ((Mv.cross a b d).to w < 2 ^ c) && decide ((Mv.cross a b d).to ((Mv.cross a b d).to w) = w) &&
  decide ((w : Int) + (at2 w a : Int) * ((at2 w d : Int) - (at2 w b : Int)) * (((2 ^ b : Nat) : Int) - ((2 ^ d : Nat) : Int)) = ((Mv.cross a b d).to w : Nat)))
theorem c1_all : ((List.range 7).all fun c => (List.range c).all fun a => (List.range (2 ^ c)).all fun w => c1 c a w) = true := by decide +kernel
theorem c2_all : ((List.range 7).all fun c => (List.range c).all fun a => (List.range c).all fun b => (List.range (2 ^ c)).all fun w => c2 c a b w) = true := by decide +kernel
theorem c3_all : ((List.range 7).all fun c => (List.range c).all fun a => (List.range c).all fun b => (List.range c).all fun d => (List.range (2 ^ c)).all fun w => c3 c a b d w) = true := by decide +kernel
theorem get1 {p : Nat → Bool} {n i : Nat} (h : (List.range n).all p = true) (hi : i < n) : p i = true := List.all_eq_true.mp h i (List.mem_range.mpr hi)
section
variable {c a b d w : Nat}
theorem c1_at (hc : c ≤ 6) (ha : a < c) (hw : w < 2 ^ c) : c1 c a w = true := get1 (get1 (get1 c1_all (by omega : c < 7)) ha) hw
theorem c2_at (hc : c ≤ 6) (ha : a < c) (hb : b < c) (hw : w < 2 ^ c) : c2 c a b w = true := get1 (get1 (get1 (get1 c2_all (by omega : c < 7)) ha) hb) hw
theorem c3_at (hc : c ≤ 6) (ha : a < c) (hb : b < c) (hd : d < c) (hw : w < 2 ^ c) : c3 c a b d w = true := get1 (get1 (get1 (get1 (get1 c3_all (by omega : c < 7)) ha) hb) hd) hw
theorem f_flip (hc : c ≤ 6) (ha : a < c) (hw : w < 2 ^ c) : (Mv.flip a).to w < 2 ^ c ∧ (Mv.flip a).to ((Mv.flip a).to w) = w ∧ (w : Int) + (1 - 2 * (at2 w a : Int)) * ((2 ^ a : Nat) : Int) = ((Mv.flip a).to w : Nat) ∧ (if w &&& 2 ^ a = 2 ^ a then 1 else 0) = at2 w a := by
  have := c1_at hc ha hw
  unfold c1 at this
  simp only [Bool.and_eq_true, decide_eq_true_eq] at this
  exact ⟨this.1.1.1, this.1.1.2, this.1.2, this.2⟩
theorem f_two (hc : c ≤ 6) (ha : a < c) (hb : b < c) (n : a ≠ b) (hw : w < 2 ^ c) : ((Mv.iff a b).to w < 2 ^ c ∧ (Mv.iff a b).to ((Mv.iff a b).to w) = w ∧ (w : Int) + (at2 w a : Int) * (1 - 2 * (at2 w b : Int)) * ((2 ^ b : Nat) : Int) = ((Mv.iff a b).to w : Nat)) ∧
    ((Mv.swap a b).to w < 2 ^ c ∧ (Mv.swap a b).to ((Mv.swap a b).to w) = w ∧ (w : Int) + ((at2 w b : Int) - (at2 w a : Int)) * (((2 ^ a : Nat) : Int) - ((2 ^ b : Nat) : Int)) = ((Mv.swap a b).to w : Nat)) ∧ 4 * at2 w a * at2 w b = (Mv.pair a b).sp w := by
  have := c2_at hc ha hb hw
  unfold c2 at this
  rw [decide_eq_false n, Bool.false_or] at this
  simp only [Bool.and_eq_true, decide_eq_true_eq] at this
  obtain ⟨⟨⟨⟨⟨⟨h1, h2⟩, h3⟩, h4⟩, h5⟩, h6⟩, h7⟩ := this
  exact ⟨⟨h1, h2, h3⟩, ⟨h4, h5, h6⟩, h7⟩
theorem f_cross (hc : c ≤ 6) (ha : a < c) (hb : b < c) (hd : d < c) (n1 : a ≠ b) (n2 : a ≠ d) (n3 : b ≠ d) (hw : w < 2 ^ c) : (Mv.cross a b d).to w < 2 ^ c ∧ (Mv.cross a b d).to ((Mv.cross a b d).to w) = w ∧
    (w : Int) + (at2 w a : Int) * ((at2 w d : Int) - (at2 w b : Int)) * (((2 ^ b : Nat) : Int) - ((2 ^ d : Nat) : Int)) = ((Mv.cross a b d).to w : Nat) := by
  have := c3_at hc ha hb hd hw
  unfold c3 at this
  rw [decide_eq_false n1, decide_eq_false n2, decide_eq_false n3, Bool.false_or, Bool.false_or, Bool.false_or] at this
  simp only [Bool.and_eq_true, decide_eq_true_eq] at this
  exact ⟨this.1.1, this.1.2, this.2⟩
end
theorem Mv.to_lt {v : Mv} {c w : Nat} (hc : c ≤ 6) (h : v.Ok c) (hw : w < 2 ^ c) : v.to w < 2 ^ c := by
  cases v with
  | flip a => exact (f_flip hc h hw).1
  | turn a k => exact hw
  | iff a b => exact (f_two hc h.1 h.2.1 h.2.2 hw).1.1
  | pair a b => exact hw
  | swap a b => exact (f_two hc h.1 h.2.1 h.2.2 hw).2.1.1
  | cross a b d => exact (f_cross hc h.1 h.2.1 h.2.2.1 h.2.2.2.1 h.2.2.2.2.1 h.2.2.2.2.2 hw).1
theorem Mv.fits {v : Mv} {c : Nat} (h : v.Ok c) : Fits v.nm v.ns c := by
  cases v with
  | flip a =>
    have e : named "flip" [(a : Int)] = [(a : Int)] := by unfold named; rw [if_neg (by decide +kernel)]
    have h : a < c := h
    exact ⟨⟨(show numAt NB "flip" = some (.int ((1 : Nat) : Int)) by decide +kernel), (show 1 ≤ 3 by decide), fun z => absurd (show ("flip" : Str) = "turn" from z) (by decide +kernel)⟩, by show ∀ x ∈ named "flip" [(a : Int)], _; rw [e]; intro b hb; rw [List.mem_singleton.mp hb]; omega, by show (named "flip" [(a : Int)]).Nodup; rw [e]; simp⟩
  | turn a k =>
    have e : named "turn" [(a : Int), (k : Int)] = [(a : Int)] := by unfold named; rw [if_pos rfl]; rfl
    have h : a < c ∧ 1 ≤ k ∧ k ≤ 7 := h
    exact ⟨⟨(show numAt NB "turn" = some (.int ((2 : Nat) : Int)) by decide +kernel), (show 2 ≤ 3 by decide), fun _ => ⟨a, k, rfl, by omega, by omega⟩⟩, by show ∀ x ∈ named "turn" [(a : Int), (k : Int)], _; rw [e]; intro b hb; rw [List.mem_singleton.mp hb]; omega, by show (named "turn" [(a : Int), (k : Int)]).Nodup; rw [e]; simp⟩
  | iff a b =>
    have e : named "if" [(a : Int), (b : Int)] = [(a : Int), (b : Int)] := by unfold named; rw [if_neg (by decide +kernel)]
    have h : a < c ∧ b < c ∧ a ≠ b := h
    exact ⟨⟨(show numAt NB "if" = some (.int ((2 : Nat) : Int)) by decide +kernel), (show 2 ≤ 3 by decide), fun z => absurd (show ("if" : Str) = "turn" from z) (by decide +kernel)⟩, by show ∀ x ∈ named "if" [(a : Int), (b : Int)], _; rw [e]; intro x hx; simp at hx; omega, by show (named "if" [(a : Int), (b : Int)]).Nodup; rw [e]; simp; omega⟩
  | pair a b =>
    have e : named "pair" [(a : Int), (b : Int)] = [(a : Int), (b : Int)] := by unfold named; rw [if_neg (by decide +kernel)]
    have h : a < c ∧ b < c ∧ a ≠ b := h
    exact ⟨⟨(show numAt NB "pair" = some (.int ((2 : Nat) : Int)) by decide +kernel), (show 2 ≤ 3 by decide), fun z => absurd (show ("pair" : Str) = "turn" from z) (by decide +kernel)⟩, by show ∀ x ∈ named "pair" [(a : Int), (b : Int)], _; rw [e]; intro x hx; simp at hx; omega, by show (named "pair" [(a : Int), (b : Int)]).Nodup; rw [e]; simp; omega⟩
  | swap a b =>
    have e : named "swap" [(a : Int), (b : Int)] = [(a : Int), (b : Int)] := by unfold named; rw [if_neg (by decide +kernel)]
    have h : a < c ∧ b < c ∧ a ≠ b := h
    exact ⟨⟨(show numAt NB "swap" = some (.int ((2 : Nat) : Int)) by decide +kernel), (show 2 ≤ 3 by decide), fun z => absurd (show ("swap" : Str) = "turn" from z) (by decide +kernel)⟩, by show ∀ x ∈ named "swap" [(a : Int), (b : Int)], _; rw [e]; intro x hx; simp at hx; omega, by show (named "swap" [(a : Int), (b : Int)]).Nodup; rw [e]; simp; omega⟩
  | cross a b d =>
    have e : named "cross" [(a : Int), (b : Int), (d : Int)] = [(a : Int), (b : Int), (d : Int)] := by unfold named; rw [if_neg (by decide +kernel)]
    have h : a < c ∧ b < c ∧ d < c ∧ a ≠ b ∧ a ≠ d ∧ b ≠ d := h
    exact ⟨⟨(show numAt NB "cross" = some (.int ((3 : Nat) : Int)) by decide +kernel), (show 3 ≤ 3 by decide), fun z => absurd (show ("cross" : Str) = "turn" from z) (by decide +kernel)⟩, by show ∀ x ∈ named "cross" [(a : Int), (b : Int), (d : Int)], _; rw [e]; intro x hx; simp at hx; omega, by show (named "cross" [(a : Int), (b : Int), (d : Int)]).Nodup; rw [e]; simp; omega⟩
end K73

set_option maxHeartbeats 4000000
/-! sorted(d) of a dict whose keys are ints -/
namespace L2
open PySem PySem.Spec PyProof.Rows
end L2

set_option maxHeartbeats 4000000
/-! the keys of a dict, whatever they are: walked, and listed -/
namespace Dk
open PySem PySem.Spec PyProof.Rows
open Sem (wp)
section
variable {prog : Program} {w : World} {A : Around} {E : Value → Shared → Prop} {s : Shared} {d it : Addr} {es : Array DictEntry} {i ep : Nat}
end
end Dk
namespace L2
open PySem PySem.Spec PyProof.Rows
end L2

set_option maxHeartbeats 4000000
/-! {k: v}, k a tuple -/
namespace L2
open PySem PySem.Spec PyProof.Rows
end L2

set_option maxHeartbeats 4000000
/-! enumerate of a list -/
namespace L2
open PySem PySem.Spec PyProof.Rows
def Ite (K : PySem.W.Frag) (l : Addr) : It :=
  ⟨fun i H => ∃ xs x, SqL K H l xs ∧ xs[i]? = some x,
   fun i H v H' => ∃ T x, v = .ref T ∧ H T = none ∧ H' = upd H T (.tup [.int i, x]) ∧ ∀ xs, SqL K H l xs → xs[i]? = some x,
   fun i H => ∃ xs, SqL K H l xs ∧ xs.length ≤ i⟩
theorem turn_enum {P : Program} {w : World} {K : PySem.W.Frag} {es : List Expr} {kk : Nat} {tp : Pos} {e it l : Addr} (ne : e ≠ it) (nl : l ≠ e) :
    Turn P w K (.Tuple es kk tp) (Ite K l) [e, it] e (fun i h => (∃ old, IsEnum h e it i old) ∧ h.IsListIter it l i) where
  mem := by simp
  obj := fun i h st b hb => by
    obtain ⟨⟨old, a1⟩, o, a2, _, a3⟩ := st
    simp only [List.mem_cons, List.not_mem_nil, or_false] at hb
    rcases hb with rfl | rfl
    · exact ⟨_, a1, fun v q => by have q' : Data.fields _ = Data.cell v := q; cases q'⟩
    · exact ⟨o, a2, fun v z => by rw [a3] at z; cases z⟩
  keep := fun i h h' st k => by
    obtain ⟨⟨old, a1⟩, a2⟩ := st
    exact ⟨⟨old, k e (by simp) _ a1⟩, a2.at fun o q => k it (by simp) o q⟩
  item := by
    intro X hP hw hK hc i pins s σ H E I hf st hg
    subst hP hw hK
    obtain ⟨xs, x, q1, hx⟩ := hg
    obtain ⟨⟨old, a1⟩, a2⟩ := st
    obtain ⟨its, rv, p, hz⟩ := I.list q1
    obtain ⟨vx, hvx, rx⟩ := rv.get hx
    refine wpAny_pyNext_enum_item a1 a2 p.isList (x := vx) (by simpa using hvx) ne fun h' b1 b2 b3 b4 b5 => ?_
    refine ⟨_, rfl, wpAny_letOwnedTupleGo_enum b1 fun h2 c1 sb => ?_⟩
    have zT : s.heap.objs.size ≠ e := Nat.ne_of_gt (Heap.lt_size a1)
    have k2 : ∀ b o, b ∉ [e, it] → s.heap.get? b = some o → h2.get? b = some o := fun b o hb q => by
      simp only [List.mem_cons, List.not_mem_nil, or_false, not_or] at hb
      exact sb.extBut b o hb.1 (b5 b o hb.1 hb.2 q)
    have hT : IsTup h2 s.heap.objs.size ([.int i s.toks, vx] : List Value).toArray := ⟨_, sb.extBut _ _ zT b3, rfl, _, rfl⟩
    refine ⟨.ref s.heap.objs.size, upd H s.heap.objs.size (.tup [.int i, x]), I.turnedT (t' := s.toks + 1) k2 hf (Nat.le_refl _) (.cons ⟨_, rfl⟩ (.cons rx .nil)) (by show 2 ≤ sizeLine; decide) hT, rfl, ⟨_, x, rfl, I.hok.fresh (Nat.le_refl _), rfl, fun xs' h1 => ?_⟩, ⟨⟨vx, ?_⟩, ?_⟩, fun b hb => ?_⟩
    · rw [I.list_inj h1 q1]; exact hx
    · exact_mod_cast c1
    · exact b2.at fun o q => sb.extBut _ _ ne.symm q
    · have hlt : b < s.heap.objs.size := by
        simp only [List.mem_cons, List.not_mem_nil, or_false] at hb
        rcases hb with rfl | rfl
        · exact Heap.lt_size a1
        · obtain ⟨o, q, _⟩ := a2; exact Heap.lt_size q
      rw [upd_ne (Nat.ne_of_lt hlt)]
      exact (hf b hb).1
  done := by
    intro X hP hw hK hc i pins s σ H E I hf st hg
    subst hP hw hK
    obtain ⟨xs, q1, hend⟩ := hg
    obtain ⟨⟨old, a1⟩, a2⟩ := st
    obtain ⟨its, rv, p, hz⟩ := I.list q1
    have e1 := rv.length
    refine wpAny_pyNext_enum_end (I.ok.hd hc) a1 a2 p.isList (by simp; omega) fun h' eb => ⟨rfl, I.turnedL (t' := s.toks) (ch := [e, it]) (fun b o hb q => ?_) hf⟩
    simp only [List.mem_cons, List.not_mem_nil, or_false, not_or] at hb
    exact eb b o hb.2 q
  self := fun _ _ _ _ _ st h => by
    obtain ⟨⟨old, a1⟩, _⟩ := st
    exact wpAny_pyIter_enum a1 h
section
variable {X : Cx} {es : List Expr} {kk : Nat} {tp : Pos}
def iEnum (K : PySem.W.Frag) (ta : TA) : TI := fun σ H R => ta σ H fun vs H1 => ∃ l xs, vs = [.ref l] ∧ SqL K H1 l xs ∧ R (Ite K l) H1
theorem pi_enum {a : Expr} {ta : TA} {p pos : Pos} (hg : Gl X "enumerate") (hm : X.mg "enumerate" = none) (ha : PA X [a] ta) (hs : starEach [a] X.env = [(false, eval a X.env)] := by rfl) :
    PI X (.Tuple es kk tp) (.Call (.Name "enumerate" p) [a] [] pos) (iEnum X.K ta) := by
  intro pins s σ H R I h
  refine Call_ (ld_blt I hg hm boot_enumerate (PyProof.Rows.callWith_type1 (thn (ha pos pins s σ H _ I h) fun us s1 ⟨vs, H1, I1, r1, q1⟩ => ?_) (by rw [hs]; rfl) (by rfl)))
  obtain ⟨l, xs, e, h1, q⟩ := q1
  subst e
  cases r1 with
  | cons r rr =>
    cases rr
    cases r
    obtain ⟨its, rv, pl, hz⟩ := I1.list h1
    refine call_enumerate_list pl.isList fun h' z1 z2 z3 zk => ?_
    have I2 : Inv X pins σ H1 { s1 with heap := h' } := I1.kept (t' := s1.toks) zk
    have lt1 : l < s1.heap.objs.size := by obtain ⟨o, q, _⟩ := pl.isList; exact Heap.lt_size q
    refine wpAny_pyIter_enum z1 ⟨_, [s1.heap.objs.size + 1, s1.heap.objs.size], _, _, H1, rfl, I2, turn_enum (Nat.succ_ne_self _) (Nat.ne_of_lt (Nat.lt_succ_of_lt lt1)), ⟨⟨_, z1⟩, z2⟩, fun b hb => ?_, q⟩
    have hge : s1.heap.objs.size ≤ b := by
      simp only [List.mem_cons, List.not_mem_nil, or_false] at hb
      rcases hb with rfl | rfl
      · exact Nat.le_succ _
      · exact Nat.le_refl _
    exact I1.fpOk hge (I1.hok.fresh hge)
end
theorem for_enum {K : PySem.W.Frag} {a : Addr} {xs : List V} {g : TG} {tb : TS} {D : Ends} {σ : St} {H : Hp} (Pv : Nat → St → Hp → Prop) (h0 : Pv 0 σ H) (hl : ∀ i σ H, i ≤ xs.length → Pv i σ H → SqL K H a xs)
    (hs : ∀ i x σ H T, xs[i]? = some x → Pv i σ H → H T = none → g (.ref T) σ (upd H T (.tup [.int i, x])) fun σ2 H2 => tb { D with nx := Pv (i + 1), ct := Pv (i + 1), bk := D.nx } σ2 H2) (hd : ∀ σ H, Pv xs.length σ H → D.nx σ H) :
    ∃ W : Nat → Nat → St → Hp → Prop, (∃ m, W 0 m σ H) ∧ ∀ i m σ H, W i m σ H →
      ((Ite K a).stop i H ∧ D.nx σ H) ∨ ((Ite K a).go i H ∧ ∃ N : St → Hp → Prop, (∀ σ' H', N σ' H' → ∃ m', m' < m ∧ W (i + 1) m' σ' H') ∧ ∀ x H', (Ite K a).yld i H x H' → g x σ H' fun σ2 H2 => tb { D with nx := N, ct := N, bk := D.nx } σ2 H2) := by
  refine ⟨fun i m σ H => m = xs.length - i ∧ i ≤ xs.length ∧ Pv i σ H, ⟨xs.length, by simp, Nat.zero_le _, h0⟩, ?_⟩
  rintro i m σ H ⟨rfl, hi, p⟩
  have q := hl i σ H hi p
  by_cases hlt : i < xs.length
  · refine .inr ⟨⟨xs, xs[i], q, by simp [hlt]⟩, Pv (i + 1), fun σ' H' p' => ⟨xs.length - (i + 1), by omega, rfl, hlt, p'⟩, fun v H' y => ?_⟩
    obtain ⟨T, x, rfl, hT, rfl, y⟩ := y
    exact hs i x σ H T (y xs q) p hT
  · have e : i = xs.length := by omega
    subst e
    exact .inl ⟨⟨xs, q, Nat.le_refl _⟩, hd σ H p⟩
end L2

set_option maxHeartbeats 4000000
/-! sums, blocks over enumerate, blocks with a test over a list -/
namespace L2
open PySem PySem.Spec PyProof.Rows
end L2

set_option maxHeartbeats 4000000
namespace K73
open PySem PySem.Spec PyProof.Rows L2 Am Pc Ba
theorem or_i (x y : Nat) : Builtin.bitOr (x : Int) (y : Int) = ((x ||| y : Nat) : Int) := by
  have h : Builtin.bitXor (x : Int) (y : Int) = Builtin.bitOr x y - Builtin.bitAnd x y := rfl
  rw [xor_i, and_i] at h
  have e := or_eq (x + y + 1) x y (by omega) (by omega)
  omega
theorem lc_enumP {K : PySem.W.Frag} {l : Addr} {g : TG} {xs : List V} {te : TE} {fr : L2.St} {H1 : Hp} {acc : Addr} {Q : VK} (Pv : Nat → List V → Hp → Prop) (hn : xs.length ≤ sizeLine) (h0 : Pv 0 [] (upd H1 acc (.lst [])))
    (hl : ∀ i ys H, Pv i ys H → SqL K H l xs)
    (hg : ∀ {a : Addr} {x y : V} {w1 w2 : Option V} {H : Hp} {Q : L2.St → Hp → Prop}, H a = some (.tup [x, y]) → Q (some x :: some y :: fr) H → g (.ref a) (w1 :: w2 :: fr) H Q)
    (hs : ∀ i x ys H (T : Addr) (N : V → Hp → Prop), xs[i]? = some x → ys.length = i → Pv i ys H → H T = none → (∀ y H5, H5 acc = some (.lst ys) → Pv (i + 1) (ys ++ [y]) (upd H5 acc (.lst (ys ++ [y]))) → N y H5) → te (some (.int i) :: some x :: fr) (upd H T (.tup [.int i, x])) N)
    (hd : ∀ ys H, ys.length = xs.length → Pv xs.length ys H → Q (.ref acc) H) : LcW (Ite K l) g te (none :: none :: fr) H1 acc Q := by
  refine ⟨fun i m zs σ2 H2 => m = xs.length - i ∧ i ≤ xs.length ∧ zs.length = i ∧ (∃ v w, σ2 = v :: w :: fr) ∧ Pv i zs H2, ⟨xs.length, by simp, Nat.zero_le _, rfl, ⟨_, _, rfl⟩, h0⟩, ?_⟩
  rintro i m zs σ2 H2 ⟨rfl, hi, zl, ⟨v, w, rfl⟩, p⟩
  have sl := hl i zs H2 p
  by_cases hlt : i < xs.length
  · have e1 : xs[i]? = some xs[i] := by simp [hlt]
    refine .inr ⟨⟨xs, _, sl, e1⟩, fun u H3 y3 => ?_⟩
    obtain ⟨T, x, rfl, hT, rfl, h1⟩ := y3
    have hx := h1 xs sl
    refine hg (x := .int i) (y := x) upd_same (hs i x zs H2 T _ hx zl p hT fun y H5 a5 p5 => ⟨a5, by omega, xs.length - (i + 1), by omega, rfl, hlt, by simp [zl], ⟨_, _, rfl⟩, p5⟩)
  · have e : i = xs.length := by omega
    subst e
    exact .inl ⟨⟨xs, sl, Nat.le_refl _⟩, hd zs H2 zl p⟩
def spExch : Sp := fun vs H Q _ => ∃ w a b : Nat, vs = [.int w, .int ((2 ^ a : Nat) : Int), .int ((2 ^ b : Nat) : Int)] ∧ ∀ H', Same H H' → Q (.int (exch w a b : Nat)) H'
def spBehind : Sp := fun vs H Q _ => ∃ (w : Nat) (p : Addr) (v : Mv) (c : Nat), vs = [.int w, .ref p] ∧ H p = some (MvT v.nm v.ns) ∧ v.Ok c ∧ c ≤ 6 ∧ v.nm ≠ "turn" ∧ v.nm ≠ "pair" ∧ ∀ H', Same H H' → Q (.int (v.to w : Nat)) H'
structure Bo (K : PySem.W.Frag) (H : Hp) (l : Addr) (ps : List Addr) (f : Nat → A5) (c : Nat) : Prop where
  lst : H l = some (.lst (ps.map V.ref))
  len : ps.length = 2 ^ c
  vals : ValsK K H ps f
theorem Bo.same {K : PySem.W.Frag} {H H' : Hp} {l : Addr} {ps : List Addr} {f : Nat → A5} {c : Nat} (b : Bo K H l ps f c) (s : Same H H') : Bo K H' l ps f c := ⟨s _ _ b.lst, b.len, b.vals.same s⟩
theorem Bo.at {K : PySem.W.Frag} {H : Hp} {l : Addr} {ps : List Addr} {f : Nat → A5} {c i : Nat} (b : Bo K H l ps f c) (hi : i < 2 ^ c) : ∃ p, ps[i]? = some p ∧ At5 K H p (f i) ∧ atI (ps.map V.ref) (i : Int) = some (.ref p) := by
  have hl : i < ps.length := by rw [b.len]; exact hi
  refine ⟨ps[i], List.getElem?_eq_getElem hl, b.vals i _ (List.getElem?_eq_getElem hl), atI_nat (by rw [List.getElem?_map, List.getElem?_eq_getElem hl]; rfl)⟩
def spWhereK (K : PySem.W.Frag) : Sp := fun vs H Q _ => ∃ (l : Addr) (ps : List Addr) (f : Nat → A5) (c bits : Nat) (k : Int), vs = [.ref l, .int bits, .int k] ∧ Bo K H l ps f c ∧ c ≤ 6 ∧
  ∀ (r : Addr) (H' : Hp) (qs : List Addr) (g : Nat → A5), H r = none → Same H H' → Bo K H' r qs g c → (∀ w, w < 2 ^ c → g w = if w &&& bits = bits then spin (f w) k else f w) → Q (.ref r) H'
theorem inV2 (x a b : Int) : inV (.int x) [.int a, .int b] = (decide (a = x) || decide (b = x)) := by
  unfold inV
  simp only [List.any_cons, List.any_nil, Bool.or_false, eqV]
  rfl
section
variable {P : Program} {w : World} {K : PySem.W.Frag} {mg : Str → Option Value} {base : Heap} {k : Nat} {h : Heap}
theorem sc_exch : FnScope ["word", "bit", "other", "both"] ["word", "bit", "other"] (defScope (top 32)) := ⟨rfl, rfl, rfl, by decide +kernel, rfl, by decide +kernel, by decide +kernel⟩
theorem ok_exch (F : FunAt K "exchanged" (top 32) .none) (X : K.In h) (G : h.Ns mainGlobals mg) : Cal P w K mg base (k + 1) "exchanged" ["word", "bit", "other"] spExch := by
  have nd := sc_exch.nd
  refine F.cal X G sc_exch (bnd3 fun _ _ _ _ _ _ _ _ _ => rfl) (fun vs H Q E h => ?_) (fun f cdv A outer s H vs Q E hr h => ?_)
  · obtain ⟨w, a, b, rfl, _⟩ := h; rfl
  obtain ⟨x, a, b, rfl, q⟩ := h
  refine ⟨_, (@pss_cons _ _ _ _ _ (@ps_set _ _ 3 _ _ _ _ nd rfl (Or.inl rfl) (pe_op op_or (pv 1) (pv 2)) rfl (.inl rfl))
    (@pss_one _ _ _ (ps_ret (pe_ifExp (pt_cmpR op_in_seq (pe_op op_and (pv 0) (pv 3)) (@pe_tup _ _ _ _ _ (pa_cons (pv 1) (pa_cons (pv 2) pa_nil))) rfl) (pe_op op_xor (pv 0) (pv 3)) (pv 0))))), ?_⟩
  try dsimp only [cxK]
  refine ⟨_, rfl, _, rfl, _, _, rfl, rfl, ?_⟩
  refine ⟨_, rfl, _, rfl, _, _, rfl, rfl, _, rfl, _, rfl, t2, fun tp htp => ?_⟩
  refine ⟨tp, _, rfl, .inr (SqT.of upd_same), rfl, rfl, _, rfl, ?_⟩
  have s1 := same_new htp (.tup [.int ((2 ^ a : Nat) : Int), .int ((2 ^ b : Nat) : Int)])
  have q1 := q _ s1
  unfold exch at q1
  show if (inV (.int (Builtin.bitAnd (x : Int) (Builtin.bitOr ((2 ^ a : Nat) : Int) ((2 ^ b : Nat) : Int)))) [.int ((2 ^ a : Nat) : Int), .int ((2 ^ b : Nat) : Int)]) = true then _ else _
  rw [or_i, and_i, inV2]
  by_cases c : x &&& (2 ^ a ||| 2 ^ b) = 2 ^ a ∨ x &&& (2 ^ a ||| 2 ^ b) = 2 ^ b
  · rw [if_pos (by rw [Bool.or_eq_true, decide_eq_true_eq, decide_eq_true_eq]; omega)]
    rw [if_pos c] at q1
    refine ⟨_, rfl, _, rfl, _, _, rfl, rfl, ?_⟩
    show Q (.int (Builtin.bitXor (x : Int) (Builtin.bitOr ((2 ^ a : Nat) : Int) ((2 ^ b : Nat) : Int)))) _
    rw [or_i, xor_i]
    exact q1
  · rw [if_neg (by rw [Bool.or_eq_true, decide_eq_true_eq, decide_eq_true_eq]; omega)]
    rw [if_neg c] at q1
    exact ⟨_, rfl, q1⟩
theorem sc_behind : FnScope ["word", "move", "bits"] ["word", "move"] (defScope (top 31)) := ⟨rfl, rfl, rfl, by decide +kernel, rfl, by decide +kernel, by decide +kernel⟩
theorem ok_behind (F : FunAt K "word_behind" (top 31) .none) (X : K.In h) (G : h.Ns mainGlobals mg) (c_named_cells : Cal P w K mg base k "named_cells" ["move"] spNamed) (c_exchanged : Cal P w K mg base k "exchanged" ["word", "bit", "other"] spExch) :
    Cal P w K mg base (k + 1) "word_behind" ["word", "move"] spBehind := by
  have nd := sc_behind.nd
  refine F.cal X G sc_behind (bnd2 fun _ _ _ _ _ _ _ _ => rfl) (fun vs H Q E h => ?_) (fun f cdv A outer s H vs Q E hr h => ?_)
  · obtain ⟨w, p, v, c, rfl, _⟩ := h; rfl
  obtain ⟨x, p, v, c, rfl, hp, ok, c6, nt, np, q⟩ := h
  have FI := Mv.fits ok
  have en : named v.nm v.ns = v.ns := by unfold named; rw [if_neg nt]
  have hlen : v.ns.length ≤ 3 := FI.form.len
  have low : ∀ a ∈ v.ns, 0 ≤ a ∧ a < 6 := fun a ha => by
    have := FI.low a (by rw [en]; exact ha)
    omega
  refine ⟨_, (@pss_cons _ _ _ _ _ (ps_setLc (i := 2) rfl nd rfl rfl (LcOk.of (Nc := ["cell"]) (mp := [none]) (by kernel_rfl)) (pi_tup (pe_cal c_named_cells hr rfl (pa_cons (pv 1) pa_nil))) (fun _ _ _ _ => (pg_name (i := 0) (show (["cell"] : List Str).Nodup by decide +kernel) rfl (Or.inl rfl))) (fun _ _ _ _ => (pe_op op_shlS pe_int (pv 0))) rfl)
    (@pss_cons _ _ _ _ _ (ps_if (pt_cmpR op_eq (pe_ix ix_tup (pv 1) pe_int (fun _ _ => rfl)) pe_str (nomark _))
      (@pss_one _ _ _ (ps_ret (pe_op op_xor (pv 0) (pe_ix ix_list (pv 2) pe_int (fun _ _ => rfl)))))
      pss_nil)
    (@pss_cons _ _ _ _ _ (ps_if (pt_cmpR op_eq (pe_ix ix_tup (pv 1) pe_int (fun _ _ => rfl)) pe_str (nomark _))
      (@pss_one _ _ _ (ps_ret (pe_cal c_exchanged hr rfl (pa_cons (pv 0) (pa_cons (pe_ix ix_list (pv 2) pe_int (fun _ _ => rfl)) (pa_cons (pe_ix ix_list (pv 2) pe_int (fun _ _ => rfl)) pa_nil))))))
      pss_nil)
    (@pss_cons _ _ _ _ _ (ps_if (pt_not (pt_truI (pe_op op_and (pv 0) (pe_ix ix_list (pv 2) pe_int (fun _ _ => rfl))) (by intro _; rfl)))
      (@pss_one _ _ _ (ps_ret (pv 0)))
      pss_nil)
    (@pss_cons _ _ _ _ _ (ps_if (pt_cmpR op_eq (pe_ix ix_tup (pv 1) pe_int (fun _ _ => rfl)) pe_str (nomark _))
      (@pss_one _ _ _ (ps_ret (pe_op op_xor (pv 0) (pe_ix ix_list (pv 2) pe_int (fun _ _ => rfl)))))
      pss_nil)
    (@pss_one _ _ _ (ps_ret (pe_cal c_exchanged hr rfl (pa_cons (pv 0) (pa_cons (pe_ix ix_list (pv 2) pe_int (fun _ _ => rfl)) (pa_cons (pe_ix ix_list (pv 2) pe_int (fun _ _ => rfl)) pa_nil))))))))))), ?_⟩
  try dsimp only [cxK]
  refine ⟨_, rfl, p, v.nm, v.ns, rfl, hp, FI.form, fun r H1 S1 hr => ?_⟩
  rw [en] at hr
  refine ⟨r, rfl, ⟨_, SqT.of hr⟩, fun acc hacc => ?_⟩
  refine lc_tupM (K := K) (fun n => .int (1 * 2 ^ n.toNat)) (SqT.of hr) (t64 (by omega)) hacc (fun n H2 N hn S2 kN => ⟨_, rfl, _, _, rfl, rfl, ⟨1, sz1, (low n hn).1, by have := (low n hn).2; omega⟩, kN⟩) (fun H3 S3 a3 => ?_)
  have S03 := S1.trans S3
  have q3 := q H3 S03
  have SP : SqT K H3 p (.str v.nm :: v.ns.map V.int) := SqT.of (S03 _ _ hp)
  have SL : SqL K H3 acc (v.ns.map fun n => V.int (1 * 2 ^ n.toNat)) := SqL.of a3
  have ip : ∀ a : Nat, (1 : Int) * 2 ^ ((a : Int)).toNat = ((2 ^ a : Nat) : Int) := fun a => ipow a
  cases v with
  | flip a =>
    refine ⟨_, rfl, p, _, _, .str "flip", rfl, rfl, SP, at0, rfl, _, rfl, decI (fun _ => ?_) (fun z => absurd rfl z)⟩
    refine ⟨_, rfl, _, rfl, acc, _, _, .int (1 * 2 ^ ((a : Int)).toNat), rfl, rfl, SL, rfl, _, _, rfl, rfl, ?_⟩
    show Q (.int (Builtin.bitXor (x : Int) (1 * 2 ^ ((a : Int)).toNat))) H3
    rw [ip, xor_i]
    exact q3
  | turn a k => exact absurd rfl nt
  | pair a b => exact absurd rfl np
  | swap a b =>
    refine ⟨_, rfl, p, _, _, .str "swap", rfl, rfl, SP, at0, rfl, _, rfl, decI (fun z => absurd (V.str.inj z) (by decide +kernel)) (fun _ => ?_)⟩
    refine ⟨_, rfl, p, _, _, .str "swap", rfl, rfl, SP, at0, rfl, _, rfl, decI (fun _ => ?_) (fun z => absurd rfl z)⟩
    refine ⟨_, rfl, _, rfl, acc, _, _, .int (1 * 2 ^ ((a : Int)).toNat), rfl, rfl, SL, rfl, _, rfl, acc, _, _, .int (1 * 2 ^ ((b : Int)).toNat), rfl, rfl, SL, rfl, ?_⟩
    exact ⟨x, a, b, by show [V.int (x : Int), V.int (1 * 2 ^ ((a : Int)).toNat), V.int (1 * 2 ^ ((b : Int)).toNat)] = _; rw [ip, ip], fun H4 S4 => q H4 (S03.trans S4)⟩
  | iff a b =>
    refine ⟨_, rfl, p, _, _, .str "if", rfl, rfl, SP, at0, rfl, _, rfl, decI (fun z => absurd (V.str.inj z) (by decide +kernel)) (fun _ => ?_)⟩
    refine ⟨_, rfl, p, _, _, .str "if", rfl, rfl, SP, at0, rfl, _, rfl, decI (fun z => absurd (V.str.inj z) (by decide +kernel)) (fun _ => ?_)⟩
    refine ⟨_, rfl, _, rfl, acc, _, _, .int (1 * 2 ^ ((a : Int)).toNat), rfl, rfl, SL, rfl, _, _, rfl, rfl, _, rfl, ?_⟩
    rw [ip, and_i]
    have q4 : Q (.int ((if x &&& 2 ^ a = 0 then x else x ^^^ 2 ^ b : Nat) : Int)) H3 := q3
    by_cases e : x &&& 2 ^ a = 0
    · rw [if_pos e] at q4
      rw [e]
      exact iteT ⟨_, rfl, q4⟩
    · rw [if_neg e] at q4
      rw [show ((((x &&& 2 ^ a : Nat) : Int) != 0) = true) by simpa using e]
      refine iteF ⟨_, rfl, p, _, _, .str "if", rfl, rfl, SP, at0, rfl, _, rfl, decI (fun _ => ?_) (fun z => absurd rfl z)⟩
      refine ⟨_, rfl, _, rfl, acc, _, _, .int (1 * 2 ^ ((b : Int)).toNat), rfl, rfl, SL, rfl, _, _, rfl, rfl, ?_⟩
      show Q (.int (Builtin.bitXor (x : Int) (1 * 2 ^ ((b : Int)).toNat))) H3
      rw [ip, xor_i]
      exact q4
  | cross a b d =>
    refine ⟨_, rfl, p, _, _, .str "cross", rfl, rfl, SP, at0, rfl, _, rfl, decI (fun z => absurd (V.str.inj z) (by decide +kernel)) (fun _ => ?_)⟩
    refine ⟨_, rfl, p, _, _, .str "cross", rfl, rfl, SP, at0, rfl, _, rfl, decI (fun z => absurd (V.str.inj z) (by decide +kernel)) (fun _ => ?_)⟩
    refine ⟨_, rfl, _, rfl, acc, _, _, .int (1 * 2 ^ ((a : Int)).toNat), rfl, rfl, SL, rfl, _, _, rfl, rfl, _, rfl, ?_⟩
    rw [ip, and_i]
    have q4 : ∀ H', Same H H' → Q (.int ((if x &&& 2 ^ a = 0 then x else exch x b d : Nat) : Int)) H' := q
    by_cases e : x &&& 2 ^ a = 0
    · rw [if_pos e] at q4
      rw [e]
      exact iteT ⟨_, rfl, q4 _ S03⟩
    · rw [if_neg e] at q4
      rw [show ((((x &&& 2 ^ a : Nat) : Int) != 0) = true) by simpa using e]
      refine iteF ⟨_, rfl, p, _, _, .str "cross", rfl, rfl, SP, at0, rfl, _, rfl, decI (fun z => absurd (V.str.inj z) (by decide +kernel)) (fun _ => ?_)⟩
      refine ⟨_, rfl, _, rfl, acc, _, _, .int (1 * 2 ^ ((b : Int)).toNat), rfl, rfl, SL, rfl, _, rfl, acc, _, _, .int (1 * 2 ^ ((d : Int)).toNat), rfl, rfl, SL, rfl, ?_⟩
      exact ⟨x, b, d, by show [V.int (x : Int), V.int (1 * 2 ^ ((b : Int)).toNat), V.int (1 * 2 ^ ((d : Int)).toNat)] = _; rw [ip, ip], fun H4 S4 => q4 H4 (S03.trans S4)⟩
end
end K73

set_option maxHeartbeats 4000000
namespace K73
open PySem PySem.Spec PyProof.Rows L2 Am Pc Ba
theorem not_mix (v : Mv) : v.nm ≠ "mix" := by
  cases v with
  | flip a => exact (show ("flip" : Str) ≠ "mix" by decide +kernel)
  | turn a k => exact (show ("turn" : Str) ≠ "mix" by decide +kernel)
  | iff a b => exact (show ("if" : Str) ≠ "mix" by decide +kernel)
  | pair a b => exact (show ("pair" : Str) ≠ "mix" by decide +kernel)
  | swap a b => exact (show ("swap" : Str) ≠ "mix" by decide +kernel)
  | cross a b d => exact (show ("cross" : Str) ≠ "mix" by decide +kernel)
theorem nm_turn {v : Mv} (h : v.nm = "turn") : ∃ a k, v = .turn a k := by
  cases v with
  | flip a => exact absurd h (show ("flip" : Str) ≠ "turn" by decide +kernel)
  | turn a k => exact ⟨a, k, rfl⟩
  | iff a b => exact absurd h (show ("if" : Str) ≠ "turn" by decide +kernel)
  | pair a b => exact absurd h (show ("pair" : Str) ≠ "turn" by decide +kernel)
  | swap a b => exact absurd h (show ("swap" : Str) ≠ "turn" by decide +kernel)
  | cross a b d => exact absurd h (show ("cross" : Str) ≠ "turn" by decide +kernel)
theorem nm_pair {v : Mv} (h : v.nm = "pair") : ∃ a b, v = .pair a b := by
  cases v with
  | flip a => exact absurd h (show ("flip" : Str) ≠ "pair" by decide +kernel)
  | turn a k => exact absurd h (show ("turn" : Str) ≠ "pair" by decide +kernel)
  | iff a b => exact absurd h (show ("if" : Str) ≠ "pair" by decide +kernel)
  | pair a b => exact ⟨a, b, rfl⟩
  | swap a b => exact absurd h (show ("swap" : Str) ≠ "pair" by decide +kernel)
  | cross a b d => exact absurd h (show ("cross" : Str) ≠ "pair" by decide +kernel)
theorem sp_none {v : Mv} (h : v.nm ≠ "turn") (h' : v.nm ≠ "pair") (w : Nat) : v.sp w = 0 := by
  cases v with
  | turn a k => exact absurd rfl h
  | pair a b => exact absurd rfl h'
  | flip a => rfl
  | iff a b => rfl
  | swap a b => rfl
  | cross a b d => rfl
section
variable {P : Program} {w : World} {K : PySem.W.Frag} {mg : Str → Option Value} {base : Heap} {k : Nat} {h : Heap}
theorem sc_where : FnScope ["board", "bits", "k"] ["board", "bits", "k"] (defScope (top 30)) := ⟨rfl, rfl, rfl, by decide +kernel, rfl, by decide +kernel, by decide +kernel⟩
theorem ok_where (F : FunAt K "spun_where" (top 30) .none) (X : K.In h) (G : h.Ns mainGlobals mg) (B : Bs mg) (c_spun : Cal P w K mg base k "spun" ["one", "k"] (spSpunK K)) : Cal P w K mg base (k + 1) "spun_where" ["board", "bits", "k"] (spWhereK K) := by
  have nd := sc_where.nd
  refine F.cal X G sc_where (bnd3 fun _ _ _ _ _ _ _ _ _ => rfl) (fun vs H Q E h => ?_) (fun f cdv A outer s H vs Q E hr h => ?_)
  · obtain ⟨l, ps, f, c, bits, k, rfl, _⟩ := h; rfl
  obtain ⟨l, ps, g, c, bits, kk, rfl, BO, c6, kq⟩ := h
  have p6 := pow6 c6
  have SL : SqL K H l (ps.map V.ref) := SqL.of BO.lst
  have lps : (ps.map V.ref).length = 2 ^ c := by rw [List.length_map, BO.len]
  refine ⟨_, (@pss_one _ _ _ (ps_ret (pe_lc rfl (LcOk.of (Nc := ["word", "one", "bits", "k"]) (mp := [none, none, some 1, some 2]) (by kernel_rfl)) (pi_enum rfl B.enumerate (pa_cons (pv 0) pa_nil)) (fun _ _ _ _ => (pg_pairC rfl (show (["word", "one", "bits", "k"] : List Str).Nodup by decide +kernel) rfl rfl rfl rfl)) (fun _ _ _ _ => (pe_ifExp (pt_cmpR op_eq (pe_op op_and (pv 0) (pv 2)) (pv 2) (nomark _)) (pe_cal c_spun hr rfl (pa_cons (pv 1) (pa_cons (pv 3) pa_nil))) (pv 1)))))), ?_⟩
  try dsimp only [cxK]
  refine ⟨_, rfl, l, _, rfl, SL, fun acc hacc => ?_⟩
  refine lc_enumP (K := K) (l := l) (xs := ps.map V.ref) (fr := [some (.int bits), some (.int kk)]) (fun i ys H' => ∃ (qs : List Addr) (y : Nat → A5), Same H H' ∧ H' acc = some (.lst ys) ∧ ys = qs.map V.ref ∧ qs.length = i ∧ ValsK K H' qs y ∧ ∀ j, j < i → y j = if j &&& bits = bits then spin (g j) kk else g j) (by rw [lps]; exact t64 p6)
    ⟨[], fun _ => ((0, 0, 0, 0), 0), same_new hacc _, upd_same, rfl, rfl, (fun _ _ z => by cases z), fun j hj => absurd hj (Nat.not_lt_zero _)⟩ (fun i ys H' p => by obtain ⟨qs, y, s2, _⟩ := p; exact SqL.of (s2 _ _ BO.lst)) (fun h q => ⟨_, _, rfl, SqT.of h, rfl, _, _, rfl, _, _, rfl, rfl, q⟩) ?_ ?_
  · rintro i x ys H2 T N hx hy ⟨qs, y, S2, a2, rfl, ql, v2, ok2⟩ hT kN
    rw [List.getElem?_map] at hx
    obtain ⟨p, hp, rfl⟩ := Option.map_eq_some_iff.mp hx
    have pg := (BO.vals i p hp).same S2
    have sT := same_new hT (.tup [.int i, .ref p])
    have fin : ∀ (r : Addr) (H5 : Hp) (z : A5), Same (upd H2 T (.tup [.int i, .ref p])) H5 → At5 K H5 r z → z = (if i &&& bits = bits then spin (g i) kk else g i) → N (.ref r) H5 := fun r H5 z S5 hr hz => by
      have S25 := sT.trans S5
      refine kN (.ref r) H5 (S25 _ _ a2) ⟨qs ++ [r], fun j => if j = qs.length then z else y j, same_upd (S2.trans S25) hacc, upd_same, by rw [List.map_append]; rfl, by simp [ql], vals_upd (xs := qs.map V.ref) (vals_push v2 S25 hr) (S25 _ _ a2), fun j hj => ?_⟩
      show (if j = qs.length then z else y j) = _
      by_cases e : j = qs.length
      · rw [if_pos e, hz, e, ql]
      · rw [if_neg e]
        exact ok2 j (by omega)
    refine ⟨_, rfl, _, rfl, _, _, rfl, rfl, _, rfl, rfl, _, rfl, ?_⟩
    show if decide (V.int (Builtin.bitAnd (i : Int) (bits : Int)) = V.int (bits : Int)) = true then _ else _
    rw [and_i]
    by_cases e : i &&& bits = bits
    · rw [decide_eq_true (by rw [e])]
      refine iteT ⟨_, rfl, _, rfl, p, _, _, _, _, _, _, rfl, pg.same sT, fun r H5 S5 hr => fin r H5 (spin (g i) kk) S5 hr (by rw [if_pos e])⟩
    · rw [decide_eq_false (fun z => e (by have := V.int.inj z; omega))]
      exact iteF ⟨_, rfl, fin p _ (g i) (Same.refl _) (pg.same sT) (by rw [if_neg e])⟩
  · rintro ys H2 hy ⟨qs, y, S2, a2, rfl, ql, v2, ok2⟩
    rw [lps] at ql ok2
    exact kq acc H2 qs y hacc S2 ⟨a2, ql, v2⟩ ok2
end
end K73

set_option maxHeartbeats 4000000
namespace K73
open PySem PySem.Spec PyProof.Rows L2 Am Pc Ba
def wOk (c a w : Nat) : Bool := decide (w &&& 2 ^ a = 0) == decide (w / 2 ^ a % 2 = 0) && if w / 2 ^ a % 2 = 0 then decide ((w ||| 2 ^ a) = w + 2 ^ a) && decide (w + 2 ^ a < 2 ^ c) && decide ((w + 2 ^ a) / 2 ^ a % 2 = 1) else decide ((w ^^^ 2 ^ a) = w - 2 ^ a) && decide (2 ^ a ≤ w) && decide ((w - 2 ^ a) / 2 ^ a % 2 = 0)
theorem wok_all : ((List.range 7).all fun c => (List.range c).all fun a => (List.range (2 ^ c)).all fun w => wOk c a w) = true := by decide +kernel
theorem wok {c a w : Nat} (hc : c ≤ 6) (ha : a < c) (hw : w < 2 ^ c) : wOk c a w = true :=
  List.all_eq_true.mp (List.all_eq_true.mp (List.all_eq_true.mp wok_all c (List.mem_range.mpr (by omega))) a (List.mem_range.mpr ha)) w (List.mem_range.mpr hw)
theorem w_low {c a w : Nat} (hc : c ≤ 6) (ha : a < c) (hw : w < 2 ^ c) (h : w / 2 ^ a % 2 = 0) : w &&& 2 ^ a = 0 ∧ (w ||| 2 ^ a) = w + 2 ^ a ∧ w + 2 ^ a < 2 ^ c ∧ (w + 2 ^ a) / 2 ^ a % 2 = 1 := by
  have := wok hc ha hw
  unfold wOk at this
  rw [if_pos h, decide_eq_true h] at this
  simpa [and_assoc] using this
theorem w_high {c a w : Nat} (hc : c ≤ 6) (ha : a < c) (hw : w < 2 ^ c) (h : ¬ w / 2 ^ a % 2 = 0) : w &&& 2 ^ a ≠ 0 ∧ (w ^^^ 2 ^ a) = w - 2 ^ a ∧ 2 ^ a ≤ w ∧ (w - 2 ^ a) / 2 ^ a % 2 = 0 := by
  have := wok hc ha hw
  unfold wOk at this
  rw [if_neg h, decide_eq_false h] at this
  simpa [and_assoc] using this
structure Mix (s : Int) (x y z : A5) : Prop where
  ex : ∃ p : A5, Sum x.1.1 x.1.2.1 x.1.2.2.1 x.1.2.2.2 x.2 (s * y.1.1) (s * y.1.2.1) (s * y.1.2.2.1) (s * y.1.2.2.2) y.2 p.1.1 p.1.2.1 p.1.2.2.1 p.1.2.2.2 p.2 ∧
    Amt z.1.1 z.1.2.1 z.1.2.2.1 z.1.2.2.2 z.2 ∧ Same4 (p.1.2.1 - p.1.2.2.2) (p.1.1 + p.1.2.2.1) (p.1.2.1 + p.1.2.2.2) (p.1.2.2.1 - p.1.1) (p.2 + 1) z.1.1 z.1.2.1 z.1.2.2.1 z.1.2.2.2 z.2
theorem a5_ext {x y : A5} (h : x.1.1 = y.1.1 ∧ x.1.2.1 = y.1.2.1 ∧ x.1.2.2.1 = y.1.2.2.1 ∧ x.1.2.2.2 = y.1.2.2.2 ∧ x.2 = y.2) : x = y := by
  obtain ⟨⟨a, b, c, d⟩, h1⟩ := x
  obtain ⟨⟨a', b', c', d'⟩, h2⟩ := y
  obtain ⟨rfl, rfl, rfl, rfl, rfl⟩ := h
  rfl
def MixAt (f : Nat → A5) (a w : Nat) (z : A5) : Prop := if w / 2 ^ a % 2 = 0 then Mix 1 (f w) (f (w + 2 ^ a)) z else Mix (-1) (f (w - 2 ^ a)) (f w) z
structure Bd5 (K : PySem.W.Frag) (H : Hp) (l : Addr) (ps : List Addr) (f : Nat → A5) (c n m : Nat) : Prop where
  lst : H l = some (.lst (ps.map V.ref))
  len : ps.length = 2 ^ c
  vals : ValsK K H ps f
  ok : ∀ i, i < 2 ^ c → Ok5 n m (f i)
theorem Bd5.same {K : PySem.W.Frag} {H H' : Hp} {l : Addr} {ps : List Addr} {f : Nat → A5} {c n m : Nat} (b : Bd5 K H l ps f c n m) (s : Same H H') : Bd5 K H' l ps f c n m := ⟨s _ _ b.lst, b.len, b.vals.same s, b.ok⟩
theorem Bd5.at {K : PySem.W.Frag} {H : Hp} {l : Addr} {ps : List Addr} {f : Nat → A5} {c n m i : Nat} (b : Bd5 K H l ps f c n m) (hi : i < 2 ^ c) : ∃ p, ps[i]? = some p ∧ At5 K H p (f i) ∧ atI (ps.map V.ref) (i : Int) = some (.ref p) := by
  have hl : i < ps.length := by rw [b.len]; exact hi
  refine ⟨ps[i], List.getElem?_eq_getElem hl, b.vals i _ (List.getElem?_eq_getElem hl), atI_nat (by rw [List.getElem?_map, List.getElem?_eq_getElem hl]; rfl)⟩
def spMixedAtK (K : PySem.W.Frag) : Sp := fun vs H Q _ => ∃ (l : Addr) (ps : List Addr) (f : Nat → A5) (c n m a wd : Nat), vs = [.ref l, .int wd, .int ((2 ^ a : Nat) : Int)] ∧ Bd5 K H l ps f c n m ∧ c ≤ 6 ∧ a < c ∧ wd < 2 ^ c ∧ n ≤ 450000 ∧ m ≤ 10000 ∧
  ∀ (r : Addr) (H' : Hp) (z : A5), Same H H' → H' r = some (tA z) → Ok5 (n + 2 * m + 3) (m + 1 : Nat) z → MixAt f a wd z → Q (.ref r) H'
def spMixedK (K : PySem.W.Frag) : Sp := fun vs H Q _ => ∃ (l : Addr) (ps : List Addr) (f : Nat → A5) (c n m a : Nat), vs = [.ref l, .int ((2 ^ a : Nat) : Int)] ∧ Bd5 K H l ps f c n m ∧ c ≤ 6 ∧ a < c ∧ n ≤ 450000 ∧ m ≤ 10000 ∧
  ∀ (r : Addr) (H' : Hp) (qs : List Addr) (g : Nat → A5), H r = none → Same H H' → Bd5 K H' r qs g c (n + 2 * m + 3) (m + 1) → (∀ w, w < 2 ^ c → MixAt f a w (g w)) → Q (.ref r) H'
theorem ok_mix {n m : Nat} {x y z p : A5} (ox : Ok5 n m x) (oy : Ok5 n m y) (hp : p.2 ≤ max x.2 y.2) (sp : Sz4 (n + x.2.toNat + y.2.toNat + 2) p.1.1 p.1.2.1 p.1.2.2.1 p.1.2.2.2)
    (r : Red (p.1.2.1 - p.1.2.2.2) (p.1.1 + p.1.2.2.1) (p.1.2.1 + p.1.2.2.2) (p.1.2.2.1 - p.1.1) (p.2 + 1) z.1.1 z.1.2.1 z.1.2.2.1 z.1.2.2.2 z.2) : Ok5 (n + 2 * m + 3) (m + 1 : Nat) z := by
  have hx := ox.le
  have hy := oy.le
  have hx0 := ox.amt.nn
  have hy0 := oy.amt.nn
  have s : Sz4 (n + 2 * m + 2) p.1.1 p.1.2.1 p.1.2.2.1 p.1.2.2.2 := sp.mono (by omega)
  have neg : ∀ {u v : Int}, Sz (n + 2 * m + 2) u → Sz (n + 2 * m + 2) v → Sz (n + 2 * m + 3) (u - v) := fun hu hv => by rw [Int.sub_eq_add_neg]; exact (hu.add hv.neg).mono (by omega)
  have add : ∀ {u v : Int}, Sz (n + 2 * m + 2) u → Sz (n + 2 * m + 2) v → Sz (n + 2 * m + 3) (u + v) := fun hu hv => (hu.add hv).mono (by omega)
  refine ⟨r.sz ⟨neg s.z2 s.z4, add s.z1 s.z3, add s.z2 s.z4, neg s.z3 s.z1⟩, r.amt, ?_⟩
  have := r.le
  omega
end K73

set_option maxHeartbeats 4000000
namespace K73
open PySem PySem.Spec PyProof.Rows L2 Am Pc Ba
theorem in2_of {K : PySem.W.Frag} {H : Hp} {p q : Addr} {x y : A5} {n m : Nat} (hp : At5 K H p x) (hq : At5 K H q y) (ox : Ok5 n m x) (oy : Ok5 n m y) (hn : n ≤ 450000) (hm : m ≤ 10000) : In2 K n [.ref p, .ref q] H p q x.1.1 x.1.2.1 x.1.2.2.1 x.1.2.2.2 x.2 y.1.1 y.1.2.1 y.1.2.2.1 y.1.2.2.2 y.2 := by
  have := ox.le
  have := oy.le
  exact ⟨rfl, hp, hq, ox.amt.nn, oy.amt.nn, by omega, by omega, ox.sz, oy.sz⟩
section
variable {P : Program} {w : World} {K : PySem.W.Frag} {mg : Str → Option Value} {base : Heap} {k : Nat} {h : Heap}
theorem sc_mixedat : FnScope ["board", "word", "bit"] ["board", "word", "bit"] (defScope (top 29)) := ⟨rfl, rfl, rfl, by decide +kernel, rfl, by decide +kernel, by decide +kernel⟩
theorem ok_mixedat (F : FunAt K "mixed_at" (top 29) .none) (X : K.In h) (G : h.Ns mainGlobals mg) (c_rooted : Cal P w K mg base k "rooted" ["one"] spRooted) (c_minus : Cal P w K mg base k "minus" ["one", "other"] (spMinusK K)) (c_plus : Cal P w K mg base k "plus" ["one", "other"] (spPlusK K)) :
    Cal P w K mg base (k + 1) "mixed_at" ["board", "word", "bit"] (spMixedAtK K) := by
  have nd := sc_mixedat.nd
  refine F.cal X G sc_mixedat (bnd3 fun _ _ _ _ _ _ _ _ _ => rfl) (fun vs H Q E h => ?_) (fun f cdv A outer s H vs Q E hr h => ?_)
  · obtain ⟨l, ps, f, c, n, m, a, wd, rfl, _⟩ := h; rfl
  obtain ⟨l, ps, g, c, n, m, a, wd, rfl, BD, c6, ac, wc, n3, m1, kq⟩ := h
  have SL : SqL K H l (ps.map V.ref) := SqL.of BD.lst
  refine ⟨_, (@pss_cons _ _ _ _ _ (ps_if (pt_truI (pe_op op_and (pv 1) (pv 2)) (by intro _; rfl))
      (@pss_one _ _ _ (ps_ret (pe_cal c_rooted hr rfl (pa_cons (pe_cal c_minus hr rfl (pa_cons (pe_ix ix_list (pv 0) (pe_op op_xor (pv 1) (pv 2)) (fun _ _ => rfl)) (pa_cons (pe_ix ix_list (pv 0) (pv 1) (fun _ _ => rfl)) pa_nil))) pa_nil))))
      pss_nil)
    (@pss_one _ _ _ (ps_ret (pe_cal c_rooted hr rfl (pa_cons (pe_cal c_plus hr rfl (pa_cons (pe_ix ix_list (pv 0) (pv 1) (fun _ _ => rfl)) (pa_cons (pe_ix ix_list (pv 0) (pe_op op_or (pv 1) (pv 2)) (fun _ _ => rfl)) pa_nil))) pa_nil))))), ?_⟩
  try dsimp only [cxK]
  by_cases hb : wd / 2 ^ a % 2 = 0
  · obtain ⟨e1, e2, e3, _⟩ := w_low c6 ac wc hb
    obtain ⟨p, _, hp, ap⟩ := BD.at wc
    obtain ⟨q, _, hq, aq⟩ := BD.at e3
    refine ⟨_, rfl, _, rfl, _, _, rfl, rfl, _, rfl, ?_⟩
    rw [and_i, e1]
    refine iteF ?_
    refine ⟨_, rfl, _, rfl, l, _, _, _, rfl, rfl, SL, ap, _, rfl, _, rfl, _, rfl, _, _, rfl, rfl, l, _, _, _, rfl, rfl, SL, (by rw [or_i, e2]; exact aq), ?_⟩
    have ox := BD.ok _ wc
    have oy := BD.ok _ e3
    refine ⟨n, p, q, _, _, _, _, _, _, _, _, _, _, in2_of hp hq ox oy n3 m1, fun r1 H1 x y z u v S1 hr1 SU SZ => ?_⟩
    refine ⟨r1, x, y, z, u, v, rfl, hr1, SU.amt.nn, fun r2 H2 x' y' z' u' v' S2 hr2 RE => ?_⟩
    refine kq r2 H2 ((x', y', z', u'), v') (S1.trans S2) hr2 (ok_mix (p := ((x, y, z, u), v)) ox oy SU.le SZ RE) ?_
    unfold MixAt
    rw [if_pos hb]
    exact ⟨((x, y, z, u), v), by simpa only [Int.one_mul] using SU, RE.amt, RE.same⟩
  · obtain ⟨e1, e2, e3, _⟩ := w_high c6 ac wc hb
    obtain ⟨p, _, hp, ap⟩ := BD.at (i := wd - 2 ^ a) (Nat.lt_of_le_of_lt (Nat.sub_le _ _) wc)
    obtain ⟨q, _, hq, aq⟩ := BD.at wc
    have ox := BD.ok (wd - 2 ^ a) (Nat.lt_of_le_of_lt (Nat.sub_le _ _) wc)
    have oy := BD.ok _ wc
    refine ⟨_, rfl, _, rfl, _, _, rfl, rfl, _, rfl, ?_⟩
    rw [and_i, show ((((wd &&& 2 ^ a : Nat) : Int) != 0) = true) by simpa using e1]
    refine iteT ?_
    refine ⟨_, rfl, _, rfl, _, rfl, _, _, rfl, rfl, l, _, _, _, rfl, rfl, SL, (by rw [xor_i, e2]; exact ap), _, rfl, _, rfl, l, _, _, _, rfl, rfl, SL, aq, ?_⟩
    refine ⟨n, p, q, _, _, _, _, _, _, _, _, _, _, in2_of hp hq ox oy n3 m1, fun r1 H1 x y z u v S1 hr1 SU SZ => ?_⟩
    refine ⟨r1, x, y, z, u, v, rfl, hr1, SU.amt.nn, fun r2 H2 x' y' z' u' v' S2 hr2 RE => ?_⟩
    refine kq r2 H2 ((x', y', z', u'), v') (S1.trans S2) hr2 (ok_mix (p := ((x, y, z, u), v)) ox oy SU.le SZ RE) ?_
    unfold MixAt
    rw [if_neg hb]
    exact ⟨((x, y, z, u), v), by simpa only [Int.neg_one_mul] using SU, RE.amt, RE.same⟩
theorem sc_mixed : FnScope ["board", "bit"] ["board", "bit"] (defScope (top 28)) := ⟨rfl, rfl, rfl, by decide +kernel, rfl, by decide +kernel, by decide +kernel⟩
theorem ok_mixed (F : FunAt K "mixed" (top 28) .none) (X : K.In h) (G : h.Ns mainGlobals mg) (B : Bs mg) (c_mixed_at : Cal P w K mg base k "mixed_at" ["board", "word", "bit"] (spMixedAtK K)) : Cal P w K mg base (k + 1) "mixed" ["board", "bit"] (spMixedK K) := by
  have nd := sc_mixed.nd
  refine F.cal X G sc_mixed (bnd2 fun _ _ _ _ _ _ _ _ => rfl) (fun vs H Q E h => ?_) (fun f cdv A outer s H vs Q E hr h => ?_)
  · obtain ⟨l, ps, f, c, n, m, a, rfl, _⟩ := h; rfl
  obtain ⟨l, ps, g, c, n, m, a, rfl, BD, c6, ac, n3, m1, kq⟩ := h
  have p6 := pow6 c6
  have SL : SqL K H l (ps.map V.ref) := SqL.of BD.lst
  have hlen : (((ps.map V.ref).length : Nat) : Int).toNat = 2 ^ c := by rw [List.length_map, BD.len, Int.toNat_natCast]
  refine ⟨_, (@pss_one _ _ _ (ps_ret (pe_lc rfl (LcOk.of (Nc := ["word", "board", "bit"]) (mp := [none, some 0, some 1]) (by kernel_rfl)) (pi_range1 rfl B.range (pa_cons (pe_callB call_len_seq rfl B.len PySem.boot_len (pa_cons (pv 0) pa_nil)) pa_nil)) (fun _ _ _ _ => (pg_name (i := 0) (show (["word", "board", "bit"] : List Str).Nodup by decide +kernel) rfl (Or.inl rfl))) (fun _ _ _ _ => (pe_cal c_mixed_at hr rfl (pa_cons (pv 1) (pa_cons (pv 0) (pa_cons (pv 2) pa_nil)))))))), ?_⟩
  try dsimp only [cxK]
  refine ⟨_, rfl, l, _, rfl, .inl SL, _, rfl, by rw [List.length_map, BD.len]; omega, by rw [List.length_map, BD.len]; omega, fun acc hacc => ?_⟩
  rw [hlen]
  refine lc_range (n := 2 ^ c) (fr := [some (.ref l), some (.int ((2 ^ a : Nat) : Int))]) (fun i ys H' => ∃ (qs : List Addr) (y : Nat → A5), Same H H' ∧ H' acc = some (.lst ys) ∧ ys = qs.map V.ref ∧ qs.length = i ∧ ValsK K H' qs y ∧ ∀ j, j < i → Ok5 (n + 2 * m + 3) (m + 1 : Nat) (y j) ∧ MixAt g a j (y j)) (t64 p6)
    ⟨[], fun _ => ((0, 0, 0, 0), 0), same_new hacc _, upd_same, rfl, rfl, (fun _ _ z => by cases z), fun j hj => absurd hj (Nat.not_lt_zero _)⟩ ?_ ?_
  · rintro i ys H2 N hi hy ⟨qs, y, S2, a2, rfl, ql, v2, ok2⟩ kN
    refine ⟨_, rfl, _, rfl, _, rfl, l, ps, g, c, n, m, a, i, (by show [V.ref l, V.int (0 + (i : Int)), _] = _; rw [Int.zero_add]), BD.same S2, c6, ac, hi, n3, m1, fun r H3 z S3 hr3 oz mz => ?_⟩
    refine kN (.ref r) H3 (S3 _ _ a2) ⟨qs ++ [r], fun j => if j = qs.length then z else y j, same_upd (S2.trans S3) hacc, upd_same, by rw [List.map_append]; rfl, by simp [ql], vals_upd (xs := qs.map V.ref) (vals_push v2 S3 (At5.of hr3)) (S3 _ _ a2), fun j hj => ?_⟩
    by_cases e : j = qs.length
    · show Ok5 _ _ (if j = qs.length then z else y j) ∧ MixAt g a j (if j = qs.length then z else y j)
      rw [if_pos e, e, ql]
      exact ⟨oz, mz⟩
    · show Ok5 _ _ (if j = qs.length then z else y j) ∧ MixAt g a j (if j = qs.length then z else y j)
      rw [if_neg e]
      exact ok2 j (by omega)
  · rintro ys H2 hy ⟨qs, y, S2, a2, rfl, ql, v2, ok2⟩
    exact kq acc H2 qs y hacc S2 ⟨a2, ql, v2, fun i hi => (ok2 i hi).1⟩ fun w hw => (ok2 w hw).2
end
end K73

set_option maxHeartbeats 4000000
/-! == and != of tuples of a text and ints, and of lists of such tuples -/
namespace L2
open PySem PySem.Spec PyProof.Rows
abbrev Mm := Str × List Int
abbrev mT (m : Mm) : HO := .tup (.str m.1 :: m.2.map V.int)
abbrev mD (m : Mm) : PyData := .tuple (.str m.1 :: m.2.map PyData.int)
def RowsM (H : Hp) : List Addr → List Mm → Prop := Paired fun p m => H p = some (mT m)
theorem RowsM.same {H H' : Hp} {ps : List Addr} {ms : List Mm} (h : RowsM H ps ms) (s : Same H H') : RowsM H' ps ms := Paired.imp' (fun _ _ c => s _ _ c) h
def AllOk (ms : List Mm) : Prop := ∀ m ∈ ms, PyData.strOk m.1 = true
section
variable {P : Program} {w : World} {H : Hp} {h : Heap}
theorem reads_m {a : Addr} {m : Mm} {its : List Value} (ht : IsTup h a its.toArray) (rv : Vals (.str m.1 :: m.2.map V.int) its) : Reads h (.ref a) (mD m) [] := by
  cases rv with
  | cons r rs =>
    obtain ⟨t, rfl⟩ := r
    obtain ⟨o, ho, hc, n, hd⟩ := ht
    exact Reads.tuple ho hc hd (.cons (as := []) (bs := []) (Reads.str _ _) (PySem.W.readsAll_of_ints (intsAre_of rs)))
theorem readsAll_m (ok : HOk P w H h) : ∀ {ps : List Addr} {ms : List Mm} {us : List Value}, RowsM H ps ms → Vals (ps.map V.ref) us → ∃ as, ReadsAll h us (ms.map mD) as
  | [], [], us, .nil, r => by cases r; exact ⟨[], .nil⟩
  | p :: ps, m :: ms, us, .cons e r, rv => by
    cases rv with
    | cons ru rr =>
      cases ru
      obtain ⟨as, ha⟩ := readsAll_m ok r rr
      obtain ⟨_, its, rv', ht⟩ := (show ObjOk P w H h p (mT m) from ok p _ e)
      exact ⟨_, .cons (reads_m ht rv') ha⟩
end
theorem canLay_m {m : Mm} (o : PyData.strOk m.1 = true) : PyData.canLay0 (mD m) = true := by
  simp [PyData.canLay0, PyData.canLayAll0, o, PySem.W.canLayAll0_ints m.2]
theorem depth_m (m : Mm) : PyData.depth (mD m) ≤ 2 := by
  have := PySem.W.depthAll_ints m.2
  simp only [PyData.depth, PyData.depthAll]
  omega
theorem canLay_ms : ∀ {ms : List Mm}, AllOk ms → PyData.canLayAll0 (ms.map mD) = true
  | [], _ => by simp [PyData.canLayAll0]
  | m :: r, h => by
    have h1 := canLay_m (h m (.head _))
    have h2 := canLay_ms (ms := r) fun x hx => h x (.tail _ hx)
    simp only [List.map_cons, PyData.canLayAll0, Bool.and_eq_true]
    exact ⟨h1, h2⟩
theorem depth_ms : ∀ ms : List Mm, PyData.depthAll (ms.map mD) ≤ 2
  | [] => by simp [PyData.depthAll]
  | m :: r => by
    have h1 := depth_ms r
    have h2 := depth_m m
    simp only [List.map_cons, PyData.depthAll]
    omega
theorem shaped_ms {ms : List Mm} (h : AllOk ms) : SeqAt.shaped (.list (ms.map mD)) = true := by
  have := depth_ms ms
  show (PyData.canLay0 _ && decide _) = true
  rw [Bool.and_eq_true]
  refine ⟨by simp only [PyData.canLay0]; exact canLay_ms h, decide_eq_true ?_⟩
  simp only [PyData.depth]
  omega
theorem noMix_m (m n : Mm) : SeqAt.noMix (mD m) (mD n) = true := by
  simp only [SeqAt.noMix, SeqAt.noMixAll, Bool.and_eq_true]
  exact ⟨by simp [SeqAt.noMix], PySem.W.noMix_ints m.2 n.2⟩
theorem noMix_ms : ∀ xs ys : List Mm, SeqAt.noMixAll (xs.map mD) (ys.map mD) = true
  | [], [] => by simp [SeqAt.noMixAll]
  | [], _ :: _ => by simp [SeqAt.noMixAll]
  | _ :: _, [] => by simp [SeqAt.noMixAll]
  | n :: r, m :: q => by
    simp only [List.map_cons, SeqAt.noMixAll, Bool.and_eq_true]
    exact ⟨noMix_m n m, noMix_ms r q⟩
theorem same_m (m n : Mm) : PySem.Spec.same (mD m) (mD n) = decide (m = n) := by
  simp only [PySem.Spec.same, PySem.Spec.sameAll, PySem.W.same_ints]
  obtain ⟨a, b⟩ := m
  obtain ⟨c, d⟩ := n
  by_cases e : a = c <;> by_cases f : b = d <;> simp [e, f]
theorem same_ms : ∀ xs ys : List Mm, PySem.Spec.sameAll (xs.map mD) (ys.map mD) = decide (xs = ys)
  | [], [] => by simp [PySem.Spec.sameAll]
  | [], _ :: _ => by simp [PySem.Spec.sameAll]
  | _ :: _, [] => by simp [PySem.Spec.sameAll]
  | n :: r, m :: q => by
    simp only [List.map_cons, PySem.Spec.sameAll, same_m, same_ms r q]
    by_cases e : n = m <;> simp [e]
section
variable {X : Cx}
def rEqLM (neg : Bool) : R2 := fun x y H Q => ∃ (a b : Addr) (ps qs : List Addr) (xs ys : List Mm), x = .ref a ∧ y = .ref b ∧ H a = some (.lst (ps.map V.ref)) ∧ H b = some (.lst (qs.map V.ref)) ∧ RowsM H ps xs ∧ RowsM H qs ys ∧ AllOk xs ∧ AllOk ys ∧ Q (.bl (if neg then !decide (xs = ys) else decide (xs = ys))) H
theorem reads_row {pins : List (Addr × Obj)} {σ : St} {H : Hp} {s : Shared} (I : Inv X pins σ H s) {a : Addr} {ps : List Addr} {xs : List Mm} (h : H a = some (.lst (ps.map V.ref))) (r : RowsM H ps xs) : ∃ as, Reads s.heap (.ref a) (.list (xs.map mD)) as := by
  obtain ⟨its, rv, pl, _⟩ := I.list (SqL.of h)
  obtain ⟨as, ha⟩ := readsAll_m I.hok r rv
  obtain ⟨o, ho, hc, n, hd⟩ := pl.isList
  exact ⟨_, Reads.list ho hc hd (by simpa using ha)⟩
theorem op_eqLM (hu : X.A.units + 64 < cLine) : OpR X (compareOp .Eq) (rEqLM false) := by
  intro pins s σ H x y v u Q I rx ry h
  obtain ⟨a, b, ps, qs, xs, ys, rfl, rfl, h1, h2, r1, r2, o1, o2, q⟩ := h
  cases rx; cases ry
  obtain ⟨as, ra⟩ := reads_row I h1 r1
  obtain ⟨bs, rb⟩ := reads_row I h2 r2
  refine eq_dataH_same ra rb (shaped_ms o1) (shaped_ms o2) hu (by simp only [SeqAt.noMix]; exact noMix_ms xs ys) ⟨.bl (decide (xs = ys)), H, I, ?_, q⟩
  show _ = _
  simp only [PySem.Spec.same]
  rw [same_ms]
theorem op_neLM (hu : X.A.units + 64 < cLine) : OpR X (compareOp .NotEq) (rEqLM true) := by
  intro pins s σ H x y v u Q I rx ry h
  obtain ⟨a, b, ps, qs, xs, ys, rfl, rfl, h1, h2, r1, r2, o1, o2, q⟩ := h
  cases rx; cases ry
  obtain ⟨as, ra⟩ := reads_row I h1 r1
  obtain ⟨bs, rb⟩ := reads_row I h2 r2
  refine ne_dataH_same ra rb (shaped_ms o1) (shaped_ms o2) hu (by simp only [SeqAt.noMix]; exact noMix_ms xs ys) ⟨.bl (!decide (xs = ys)), H, I, ?_, q⟩
  show _ = _
  simp only [PySem.Spec.same]
  rw [same_ms]
end
end L2

set_option maxHeartbeats 4000000
/-! reversed(a list), walked by a block -/
namespace L2
open PySem PySem.Spec PyProof.Rows
end L2

set_option maxHeartbeats 4000000
namespace K73
open PySem PySem.Spec PyProof.Rows L2 Am Pc Ba
/-! a mix undoes itself -/
theorem eq2_at {x h y g N : Int} (hh : 0 ≤ h) (hg : 0 ≤ g) (h1 : h ≤ N) (h2 : g ≤ N) : Eq2 x h y g ↔ x * p2 (N - h) = y * p2 (N - g) := by
  unfold Eq2
  have e1 := p2_sub hh h1
  have e2 := p2_sub hg h2
  have n1 := p2_ne h
  have n2 := p2_ne g
  have n3 := p2_ne (N - h)
  have n4 := p2_ne (N - g)
  have n5 := p2_ne N
  constructor
  · intro z
    -- times p2 h * p2 g
    have : (x * p2 (N - h)) * (p2 h * p2 g) = (y * p2 (N - g)) * (p2 h * p2 g) := by
      have a1 : (x * p2 (N - h)) * (p2 h * p2 g) = (x * p2 g) * p2 N := by rw [e1]; grind
      have a2 : (y * p2 (N - g)) * (p2 h * p2 g) = (y * p2 h) * p2 N := by rw [e2]; grind
      rw [a1, a2, z]
    exact Int.eq_of_mul_eq_mul_right (Int.mul_ne_zero n1 n2) this
  · intro z
    have : (x * p2 g) * p2 N = (y * p2 h) * p2 N := by
      have a1 : (x * p2 (N - h)) * (p2 h * p2 g) = (x * p2 g) * p2 N := by rw [e1]; grind
      have a2 : (y * p2 (N - g)) * (p2 h * p2 g) = (y * p2 h) * p2 N := by rw [e2]; grind
      rw [← a1, ← a2, z]
    exact Int.eq_of_mul_eq_mul_right n5 this
def va (x : A5) (M : Int) : Int := x.1.1 * p2 (M - x.2)
def vb (x : A5) (M : Int) : Int := x.1.2.1 * p2 (M - x.2)
def vc (x : A5) (M : Int) : Int := x.1.2.2.1 * p2 (M - x.2)
def vd (x : A5) (M : Int) : Int := x.1.2.2.2 * p2 (M - x.2)
theorem sum_one {a a' u h h' g M : Int} (h0 : 0 ≤ h) (h0' : 0 ≤ h') (g0 : 0 ≤ g) (l1 : h + h' ≤ M) (l2 : g ≤ M) (e : Eq2 (a * p2 h' + a' * p2 h) (h + h') u g) : u * p2 (M - g) = a * p2 (M - h) + a' * p2 (M - h') := by
  have z := (eq2_at (by omega) g0 l1 l2).mp e
  have e1 : p2 (M - h) = p2 (M - (h + h')) * p2 h' := by rw [← p2_add (by omega) h0']; congr 1; omega
  have e2 : p2 (M - h') = p2 (M - (h + h')) * p2 h := by rw [← p2_add (by omega) h0]; congr 1; omega
  rw [← z, e1, e2]
  grind
theorem root_one {u v h g M : Int} (h0 : 0 ≤ h) (g0 : 0 ≤ g) (l1 : h ≤ M) (l2 : g ≤ M + 1) (e : Eq2 u (h + 1) v g) : v * p2 (M + 1 - g) = u * p2 (M - h) := by
  have z := (eq2_at (N := M + 1) (by omega) g0 (by omega) l2).mp e
  rw [← z]
  congr 2
  omega
theorem Mix.vals {s : Int} {x y z : A5} (m : Mix s x y z) (hx : 0 ≤ x.2) (hy : 0 ≤ y.2) : ∃ M0 : Int, ∀ M, M0 ≤ M →
    va z (M + 1) = (vb x M + s * vb y M) - (vd x M + s * vd y M) ∧ vb z (M + 1) = (va x M + s * va y M) + (vc x M + s * vc y M) ∧ vc z (M + 1) = (vb x M + s * vb y M) + (vd x M + s * vd y M) ∧ vd z (M + 1) = (vc x M + s * vc y M) - (va x M + s * va y M) := by
  obtain ⟨p, S, az, R⟩ := m.ex
  have p0 := S.amt.nn
  have z0 := az.nn
  refine ⟨x.2 + y.2 + p.2 + z.2, fun M hM => ?_⟩
  have l1 : x.2 + y.2 ≤ M := by omega
  have l2 : p.2 ≤ M := by omega
  have l3 : z.2 ≤ M + 1 := by omega
  have a1 := sum_one hx hy p0 l1 l2 S.same.e1
  have a2 := sum_one hx hy p0 l1 l2 S.same.e2
  have a3 := sum_one hx hy p0 l1 l2 S.same.e3
  have a4 := sum_one hx hy p0 l1 l2 S.same.e4
  have r1 := root_one p0 z0 l2 l3 R.e1
  have r2 := root_one p0 z0 l2 l3 R.e2
  have r3 := root_one p0 z0 l2 l3 R.e3
  have r4 := root_one p0 z0 l2 l3 R.e4
  unfold va vb vc vd
  rw [r1, r2, r3, r4, Int.sub_mul, Int.add_mul, Int.add_mul, Int.sub_mul, a1, a2, a3, a4]
  refine ⟨?_, ?_, ?_, ?_⟩ <;> grind
theorem val_same {x y : A5} {M : Int} (ax : Amt x.1.1 x.1.2.1 x.1.2.2.1 x.1.2.2.2 x.2) (ay : Amt y.1.1 y.1.2.1 y.1.2.2.1 y.1.2.2.2 y.2) (l1 : x.2 ≤ M) (l2 : y.2 ≤ M) (e1 : va x M = va y M) (e2 : vb x M = vb y M) (e3 : vc x M = vc y M) (e4 : vd x M = vd y M) : x = y :=
  a5_ext (ax.unique ay ⟨(eq2_at ax.nn ay.nn l1 l2).mpr e1, (eq2_at ax.nn ay.nn l1 l2).mpr e2, (eq2_at ax.nn ay.nn l1 l2).mpr e3, (eq2_at ax.nn ay.nn l1 l2).mpr e4⟩)
theorem Mix.amt {s : Int} {x y z : A5} (m : Mix s x y z) : Amt z.1.1 z.1.2.1 z.1.2.2.1 z.1.2.2.2 z.2 := by
  obtain ⟨p, _, az, _⟩ := m.ex
  exact az
end K73

set_option maxHeartbeats 4000000
namespace K73
open PySem PySem.Spec PyProof.Rows L2 Am Pc Ba
/-! rows of moves, and what undoes them -/
inductive Gm where
  | mv (v : Mv)
  | mix (a : Nat)
namespace Gm
def nm : Gm → Str
  | mv v => v.nm
  | mix _ => "mix"
def ns : Gm → List Int
  | mv v => v.ns
  | mix a => [(a : Int)]
def Ok (c : Nat) : Gm → Prop
  | mv v => v.Ok c
  | mix a => a < c
abbrev mm (m : Gm) : Mm := (m.nm, m.ns)
end Gm
def Step (c : Nat) : Gm → (Nat → A5) → (Nat → A5) → Prop
  | .mv v, f, g => ∀ w, w < 2 ^ c → g w = spin (f (v.to w)) (v.sp w : Nat)
  | .mix a, f, g => ∀ w, w < 2 ^ c → MixAt f a w (g w)
inductive Steps (c : Nat) : List Gm → (Nat → A5) → (Nat → A5) → Prop
  | nil {f : Nat → A5} : Steps c [] f f
  | cons {m : Gm} {ms : List Gm} {f g h : Nat → A5} : Step c m f g → Steps c ms g h → Steps c (m :: ms) f h
theorem Steps.snoc {c : Nat} : ∀ {a : List Gm} {m : Gm} {f g h : Nat → A5}, Steps c a f g → Step c m g h → Steps c (a ++ [m]) f h
  | _, _, _, _, _, .nil, s => .cons s .nil
  | _, _, _, _, _, .cons s t, r => .cons s (Steps.snoc t r)
abbrev Ams (c : Nat) (f : Nat → A5) : Prop := ∀ w, w < 2 ^ c → Amt (f w).1.1 (f w).1.2.1 (f w).1.2.2.1 (f w).1.2.2.2 (f w).2
theorem amt_rot {v : Int × Int × Int × Int} {h : Int} (o : Amt v.1 v.2.1 v.2.2.1 v.2.2.2 h) : ∀ k, Amt (rot k v).1 (rot k v).2.1 (rot k v).2.2.1 (rot k v).2.2.2 h
  | 0 => o
  | k + 1 => by
    have := amt_rot o k
    refine ⟨this.nn, ?_⟩
    have o : h = 0 ∨ (rot k v).1 % 2 = 1 ∨ (rot k v).2.1 % 2 = 1 ∨ (rot k v).2.2.1 % 2 = 1 ∨ (rot k v).2.2.2 % 2 = 1 := this.odd
    show h = 0 ∨ (-(rot k v).2.2.2) % 2 = 1 ∨ (rot k v).1 % 2 = 1 ∨ (rot k v).2.1 % 2 = 1 ∨ (rot k v).2.2.1 % 2 = 1
    omega
theorem Step.ams {c : Nat} {m : Gm} {f g : Nat → A5} (hc : c ≤ 6) (ok : m.Ok c) (s : Step c m f g) (a : Ams c f) : Ams c g := by
  intro w hw
  cases m with
  | mv v =>
    have e : g w = spin (f (v.to w)) (v.sp w : Nat) := s w hw
    rw [e]
    exact amt_rot (a _ (Mv.to_lt hc ok hw)) _
  | mix a =>
    have e : MixAt f a w (g w) := s w hw
    unfold MixAt at e
    split at e
    · exact e.amt
    · exact e.amt
theorem Gm.fits {m : Gm} {c : Nat} (h : m.Ok c) : Fits m.nm m.ns c := by
  cases m with
  | mv v => exact Mv.fits h
  | mix a =>
    have e : named "mix" [(a : Int)] = [(a : Int)] := by unfold named; rw [if_neg (by decide +kernel)]
    have h : a < c := h
    exact ⟨⟨(show numAt NB "mix" = some (.int ((1 : Nat) : Int)) by decide +kernel), (show 1 ≤ 3 by decide), fun z => absurd (show ("mix" : Str) = "turn" from z) (by decide +kernel)⟩, by show ∀ x ∈ named "mix" [(a : Int)], _; rw [e]; intro b hb; rw [List.mem_singleton.mp hb]; omega, by show (named "mix" [(a : Int)]).Nodup; rw [e]; simp⟩
end K73

set_option maxHeartbeats 4000000
namespace K73
open PySem PySem.Spec PyProof.Rows L2 Am Pc Ba
theorem ok_spin5 {n : Nat} {M : Int} {x : A5} {k : Int} (o : Ok5 n M x) : Ok5 n M (spin x k) := ok_rot o _
theorem Bd5.bo {K : PySem.W.Frag} {H : Hp} {l : Addr} {ps : List Addr} {f : Nat → A5} {c n m : Nat} (b : Bd5 K H l ps f c n m) : Bo K H l ps f c := ⟨b.lst, b.len, b.vals⟩
def spTurnedK (K : PySem.W.Frag) : Sp := fun vs H Q _ => ∃ (l p : Addr) (ps : List Addr) (f : Nat → A5) (c n M : Nat) (m : Gm), vs = [.ref l, .ref p] ∧ H p = some (MvT m.nm m.ns) ∧ m.Ok c ∧ Bd5 K H l ps f c n M ∧ c ≤ 6 ∧ n ≤ 450000 ∧ M ≤ 10000 ∧
  ∀ (r : Addr) (H' : Hp) (qs : List Addr) (g : Nat → A5), H r = none → Same H H' → Bd5 K H' r qs g c (n + 2 * M + 3) (M + 1) → Step c m f g → Q (.ref r) H'
section
variable {P : Program} {w : World} {K : PySem.W.Frag} {mg : Str → Option Value} {base : Heap} {k : Nat} {h : Heap}
theorem sc_turned : FnScope ["board", "move"] ["board", "move"] (defScope (top 27)) := ⟨rfl, rfl, rfl, by decide +kernel, rfl, by decide +kernel, by decide +kernel⟩
theorem ok_turned (F : FunAt K "turned" (top 27) .none) (X : K.In h) (G : h.Ns mainGlobals mg) (B : Bs mg) (c_check_move : Cal P w K mg base k "check_move" ["move", "cells"] spCheck) (c_cells_of : Cal P w K mg base k "cells_of" ["board"] (spCellsOf K)) (c_mixed : Cal P w K mg base k "mixed" ["board", "bit"] (spMixedK K)) (c_spun_where : Cal P w K mg base k "spun_where" ["board", "bits", "k"] (spWhereK K))
    (c_word_behind : Cal P w K mg base k "word_behind" ["word", "move"] spBehind) : Cal P w K mg base (k + 1) "turned" ["board", "move"] (spTurnedK K) := by
  have nd := sc_turned.nd
  refine F.cal X G sc_turned (bnd2 fun _ _ _ _ _ _ _ _ => rfl) (fun vs H Q E h => ?_) (fun f cdv A outer s H vs Q E hr h => ?_)
  · obtain ⟨l, p, ps, f, c, n, M, m, rfl, _⟩ := h; rfl
  obtain ⟨l, p, ps, g, c, n, M, m, rfl, hp, ok, BD, c6, n4, m1, kq0⟩ := h
  have p6 := pow6 c6
  have BO := BD.bo
  have ip : ∀ a : Nat, (1 : Int) * 2 ^ ((a : Int)).toNat = ((2 ^ a : Nat) : Int) := fun a => ipow a
  refine ⟨_, (@pss_cons _ _ _ _ _ (ps_expr (pe_cal c_check_move hr rfl (pa_cons (pv 1) (pa_cons (pe_cal c_cells_of hr rfl (pa_cons (pv 0) pa_nil)) pa_nil))))
    (@pss_cons _ _ _ _ _ (ps_if (pt_cmpR op_eq (pe_ix ix_tup (pv 1) pe_int (fun _ _ => rfl)) pe_str (nomark _))
      (@pss_one _ _ _ (ps_ret (pe_cal c_mixed hr rfl (pa_cons (pv 0) (pa_cons (pe_op op_shlS pe_int (pe_ix ix_tup (pv 1) pe_int (fun _ _ => rfl))) pa_nil)))))
      pss_nil)
    (@pss_cons _ _ _ _ _ (ps_if (pt_cmpR op_eq (pe_ix ix_tup (pv 1) pe_int (fun _ _ => rfl)) pe_str (nomark _))
      (@pss_one _ _ _ (ps_ret (pe_cal c_spun_where hr rfl (pa_cons (pv 0) (pa_cons (pe_op op_shlS pe_int (pe_ix ix_tup (pv 1) pe_int (fun _ _ => rfl))) (pa_cons (pe_ix ix_tup (pv 1) pe_int (fun _ _ => rfl)) pa_nil))))))
      pss_nil)
    (@pss_cons _ _ _ _ _ (ps_if (pt_cmpR op_eq (pe_ix ix_tup (pv 1) pe_int (fun _ _ => rfl)) pe_str (nomark _))
      (@pss_one _ _ _ (ps_ret (pe_cal c_spun_where hr rfl (pa_cons (pv 0) (pa_cons (pe_op op_or (pe_op op_shlS pe_int (pe_ix ix_tup (pv 1) pe_int (fun _ _ => rfl))) (pe_op op_shlS pe_int (pe_ix ix_tup (pv 1) pe_int (fun _ _ => rfl)))) (pa_cons pe_int pa_nil))))))
      pss_nil)
    (@pss_one _ _ _ (ps_ret (pe_lc rfl (LcOk.of (Nc := ["word", "board", "move"]) (mp := [none, some 0, some 1]) (by kernel_rfl)) (pi_range1 rfl B.range (pa_cons (pe_callB call_len_seq rfl B.len PySem.boot_len (pa_cons (pv 0) pa_nil)) pa_nil)) (fun _ _ _ _ => (pg_name (i := 0) (show (["word", "board", "move"] : List Str).Nodup by decide +kernel) rfl (Or.inl rfl))) (fun _ _ _ _ => (pe_ix ix_listC (pv 1) (pe_cal c_word_behind hr rfl (pa_cons (pv 0) (pa_cons (pv 2) pa_nil))) (fun _ _ => rfl)))))))))), ?_⟩
  try dsimp only [cxK]
  refine ⟨_, rfl, _, rfl, l, _, c, rfl, SqL.of BO.lst, by rw [List.length_map, BO.len], c6, p, m.nm, m.ns, c, rfl, hp, Gm.fits ok, fun H1 S1 => ?_⟩
  have SP : SqT K H1 p (.str m.nm :: m.ns.map V.int) := SqT.of (S1 _ _ hp)
  have B1 := BO.same S1
  have BD1 := BD.same S1
  cases m with
  | mix a =>
    have ac : a < c := ok
    refine ⟨_, rfl, p, _, _, .str "mix", rfl, rfl, SP, at0, rfl, _, rfl, decI (fun _ => ?_) (fun z => absurd rfl z)⟩
    refine ⟨_, rfl, _, rfl, p, _, _, .int a, rfl, rfl, SP, rfl, _, _, rfl, rfl, ⟨1, sz1, by omega, by omega⟩, ?_⟩
    exact ⟨l, ps, g, c, n, M, a, congrArg (fun z => [V.ref l, V.int z]) (ip a), BD1, c6, ac, n4, m1, fun r H2 qs y hr2 S2 B2 M2 => kq0 r H2 qs y (S1.free hr2) (S1.trans S2) B2 M2⟩
  | mv v =>
  have SP : SqT K H1 p (.str v.nm :: v.ns.map V.int) := SP
  have ok : v.Ok c := ok
  have hp : H p = some (MvT v.nm v.ns) := hp
  have kq : ∀ (r : Addr) (H' : Hp) (qs : List Addr) (y : Nat → A5), H r = none → Same H H' → Bo K H' r qs y c → (∀ w, w < 2 ^ c → y w = spin (g (v.to w)) (v.sp w : Nat)) → Q (.ref r) H' := fun r H' qs y h1 h2 h3 h4 =>
    kq0 r H' qs y h1 h2 ⟨h3.lst, h3.len, h3.vals, fun i hi => by rw [h4 i hi]; exact (ok_spin5 (BD.ok _ (Mv.to_lt c6 ok hi))).mono (by omega) (by omega)⟩ h4
  refine ⟨_, rfl, p, _, _, .str v.nm, rfl, rfl, SP, at0, rfl, _, rfl, decI (fun z => absurd (V.str.inj z) (not_mix v)) (fun _ => ?_)⟩
  refine ⟨_, rfl, p, _, _, .str v.nm, rfl, rfl, SP, at0, rfl, _, rfl, decI (fun z => ?_) (fun zt => ?_)⟩
  · obtain ⟨a, kk, rfl⟩ := nm_turn (V.str.inj z)
    have ok : a < c ∧ 1 ≤ kk ∧ kk ≤ 7 := ok
    refine ⟨_, rfl, _, rfl, p, _, _, .int a, rfl, rfl, SP, rfl, _, _, rfl, rfl, ⟨1, sz1, by omega, by omega⟩, _, rfl, p, _, _, .int kk, rfl, rfl, SP, rfl, ?_⟩
    refine ⟨l, ps, g, c, 2 ^ a, kk, (by show [V.ref l, V.int (1 * 2 ^ ((a : Int)).toNat), V.int (kk : Int)] = _; rw [ip]), B1, c6, fun r H2 qs y hr2 S2 B2 M2 => kq r H2 qs y (S1.free hr2) (S1.trans S2) B2 fun w hw => ?_⟩
    rw [M2 w hw]
    show _ = spin (g w) ((if w &&& 2 ^ a = 2 ^ a then kk else 0 : Nat) : Int)
    split
    · rfl
    · rfl
  refine ⟨_, rfl, p, _, _, .str v.nm, rfl, rfl, SP, at0, rfl, _, rfl, decI (fun z => ?_) (fun zp => ?_)⟩
  · obtain ⟨a, b, rfl⟩ := nm_pair (V.str.inj z)
    have ok : a < c ∧ b < c ∧ a ≠ b := ok
    refine ⟨_, rfl, _, rfl, p, _, _, .int a, rfl, rfl, SP, rfl, _, _, rfl, rfl, ⟨1, sz1, by omega, by omega⟩, _, rfl, p, _, _, .int b, rfl, rfl, SP, rfl, _, _, rfl, rfl, ⟨1, sz1, by omega, by omega⟩, _, _, rfl, rfl, ?_⟩
    refine ⟨l, ps, g, c, 2 ^ a ||| 2 ^ b, 4, (by show [V.ref l, V.int (Builtin.bitOr (1 * 2 ^ ((a : Int)).toNat) (1 * 2 ^ ((b : Int)).toNat)), V.int 4] = _; rw [ip, ip, or_i]), B1, c6, fun r H2 qs y hr2 S2 B2 M2 => kq r H2 qs y (S1.free hr2) (S1.trans S2) B2 fun w hw => ?_⟩
    rw [M2 w hw]
    show _ = spin (g w) ((if w &&& (2 ^ a ||| 2 ^ b) = (2 ^ a ||| 2 ^ b) then 4 else 0 : Nat) : Int)
    split
    · rfl
    · rfl
  have nt : v.nm ≠ "turn" := fun e => zt (by rw [e])
  have np : v.nm ≠ "pair" := fun e => zp (by rw [e])
  have hlen : (((ps.map V.ref).length : Nat) : Int).toNat = 2 ^ c := by rw [List.length_map, BO.len, Int.toNat_natCast]
  have SL : SqL K H1 l (ps.map V.ref) := SqL.of B1.lst
  refine ⟨_, rfl, l, _, rfl, .inl SL, _, rfl, by rw [List.length_map, BO.len]; omega, by rw [List.length_map, BO.len]; omega, fun acc hacc => ?_⟩
  rw [hlen]
  refine lc_range (n := 2 ^ c) (fr := [some (.ref l), some (.ref p)]) (fun i ys H' => ∃ (qs : List Addr) (y : Nat → A5), Same H1 H' ∧ H' acc = some (.lst ys) ∧ ys = qs.map V.ref ∧ qs.length = i ∧ ValsK K H' qs y ∧ ∀ j, j < i → y j = g (v.to j)) (t64 p6)
    ⟨[], fun _ => ((0, 0, 0, 0), 0), same_new hacc _, upd_same, rfl, rfl, (fun _ _ z => by cases z), fun j hj => absurd hj (Nat.not_lt_zero _)⟩ ?_ ?_
  · rintro i ys H2 N hi hy ⟨qs, y, S2, a2, rfl, ql, v2, ok2⟩ kN
    refine ⟨_, rfl, _, rfl, _, rfl, i, p, v, c, (by show [V.int (0 + (i : Int)), V.ref p] = _; rw [Int.zero_add]), S2 _ _ (S1 _ _ hp), ok, c6, nt, np, fun H3 S3 => ?_⟩
    obtain ⟨q, _, hq, aq⟩ := ((B1.same S2).same S3).at (Mv.to_lt c6 ok hi)
    refine ⟨l, _, _, _, rfl, rfl, SqL.of (S3 _ _ (S2 _ _ B1.lst)), aq, ?_⟩
    refine kN (.ref q) H3 (S3 _ _ a2) ⟨qs ++ [q], fun j => if j = qs.length then g (v.to i) else y j, same_upd (S2.trans S3) hacc, upd_same, by rw [List.map_append]; rfl, by simp [ql], vals_upd (xs := qs.map V.ref) (vals_push v2 S3 hq) (S3 _ _ a2), fun j hj => ?_⟩
    show (if j = qs.length then g (v.to i) else y j) = _
    by_cases e : j = qs.length
    · rw [if_pos e, e, ql]
    · rw [if_neg e]
      exact ok2 j (by omega)
  · rintro ys H2 hy ⟨qs, y, S2, a2, rfl, ql, v2, ok2⟩
    refine kq acc H2 qs y (S1.free hacc) (S1.trans S2) ⟨a2, ql, v2⟩ fun w hw => ?_
    rw [ok2 w hw, sp_none nt np w]
    rfl
end
end K73

set_option maxHeartbeats 4000000
namespace K73
open PySem PySem.Spec PyProof.Rows L2 Am Pc Ba
def Mvs (H : Hp) (ps : List Addr) (ms : List Gm) : Prop := RowsM H ps (ms.map Gm.mm)
theorem Mvs.length {H : Hp} {ps : List Addr} {ms : List Gm} (h : Mvs H ps ms) : ps.length = ms.length := by
  have := Paired.length h
  rw [List.length_map] at this
  exact this
theorem Mvs.get {H : Hp} : ∀ {ps : List Addr} {ms : List Gm} {i : Nat} {p : Addr}, Mvs H ps ms → ps[i]? = some p → ∃ m, ms[i]? = some m ∧ H p = some (MvT m.nm m.ns)
  | p' :: ps, m :: ms, 0, p, .cons a r, h => by
    have : p' = p := by simpa using h
    subst this
    exact ⟨m, rfl, a⟩
  | p' :: ps, m :: ms, i + 1, p, .cons a r, h => by
    obtain ⟨m', b, c⟩ := Mvs.get (ps := ps) (ms := ms) (i := i) (p := p) r (by simpa using h)
    exact ⟨m', b, c⟩
structure Rw (H : Hp) (l : Addr) (ps : List Addr) (ms : List Gm) (c : Nat) : Prop where
  lst : H l = some (.lst (ps.map V.ref))
  mvs : Mvs H ps ms
  ok : ∀ m ∈ ms, m.Ok c
  len : ms.length ≤ 200
def spRunK (K : PySem.W.Frag) : Sp := fun vs H Q _ => ∃ (l lr : Addr) (ps rp : List Addr) (f : Nat → A5) (c n M : Nat) (ms : List Gm), vs = [.ref l, .ref lr] ∧ Rw H lr rp ms c ∧ Bd5 K H l ps f c n M ∧ c ≤ 6 ∧ M ≤ 300 ∧ n ≤ 210000 ∧
  ∀ (r : Addr) (H' : Hp) (qs : List Addr) (g : Nat → A5), H r = none → Same H H' → Bd5 K H' r qs g c (n + 1010 * ms.length) (M + ms.length) → Steps c ms f g → Q (.ref r) H'
section
variable {P : Program} {w : World} {K : PySem.W.Frag} {mg : Str → Option Value} {base : Heap} {k : Nat} {h : Heap}
theorem sc_run : FnScope ["board", "row", "behind", "move"] ["board", "row"] (defScope (top 50)) := ⟨rfl, rfl, rfl, by decide +kernel, rfl, by decide +kernel, by decide +kernel⟩
theorem ok_run (F : FunAt K "run" (top 50) .none) (X : K.In h) (G : h.Ns mainGlobals mg) (B : Bs mg) (c_turned : Cal P w K mg base k "turned" ["board", "move"] (spTurnedK K)) : Cal P w K mg base (k + 1) "run" ["board", "row"] (spRunK K) := by
  have nd := sc_run.nd
  refine F.cal X G sc_run (bnd2 fun _ _ _ _ _ _ _ _ => rfl) (fun vs H Q E h => ?_) (fun f cdv A outer s H vs Q E hr h => ?_)
  · obtain ⟨l, lr, ps, rp, f, c, n, M, ms, rfl, _⟩ := h; rfl
  obtain ⟨l, lr, ps, rp, g, c, n, M, ms, rfl, RW, BD, c6, M3, n2, kq⟩ := h
  have l200 := RW.len
  have lps := RW.mvs.length
  have SR : SqL K H lr (rp.map V.ref) := SqL.of RW.lst
  refine ⟨_, (@pss_cons _ _ _ _ _ (@ps_set _ _ 2 _ _ _ _ nd rfl (Or.inl rfl) (pe_callTy call_list_of rfl B.list boot_list (pa_cons (pv 0) pa_nil)) rfl (.inl rfl))
    (@pss_cons _ _ _ _ _ (ps_for PassesOwn.never rfl (pi_list (pv 1)) (pg_name (i := 3) nd rfl (Or.inl rfl))
      (@pss_one _ _ _ (@ps_set _ _ 2 _ _ _ _ nd rfl (Or.inl rfl) (pe_cal c_turned hr rfl (pa_cons (pv 2) (pa_cons (pv 3) pa_nil))) rfl (.inl rfl))))
    (@pss_one _ _ _ (ps_ret (pv 2))))), ?_⟩
  try dsimp only [cxK]
  refine ⟨_, rfl, l, _, rfl, .inl (SqL.of BD.lst), fun b0 hb0 => ?_⟩
  have s0 := same_new hb0 (.lst (ps.map V.ref))
  refine ⟨_, rfl, lr, rfl, ⟨_, s0.seq SR⟩, for_list (K := K) (a := lr) (xs := rp.map V.ref) (fun i σ H' => Same H H' ∧ ∃ (b : Addr) (qs : List Addr) (y : Nat → A5) (v3 : Option V), H b = none ∧ Bd5 K H' b qs y c (n + 1010 * i) (M + i) ∧ Steps c (ms.take i) g y ∧ σ = [some (.ref l), some (.ref lr), some (.ref b), v3])
    ⟨s0, b0, ps, g, none, hb0, ⟨upd_same, BD.len, BD.vals.same s0, BD.ok⟩, by rw [List.take_zero]; exact .nil, rfl⟩ (fun i σ H' _ e => e.1.seq SR) ?_ ?_⟩
  · rintro i x σ H1 hx ⟨S1, b, qs, y, v3, hb, B1, ST, rfl⟩
    have ilt : i < ms.length := by
      have := (List.getElem?_eq_some_iff.mp hx).1
      rw [List.length_map] at this
      omega
    rw [List.getElem?_map] at hx
    obtain ⟨p, hp, rfl⟩ := Option.map_eq_some_iff.mp hx
    obtain ⟨m, hm, p0⟩ := RW.mvs.get hp
    refine ⟨_, rfl, _, rfl, b, p, qs, y, c, _, _, m, rfl, S1 _ _ p0, RW.ok m (List.mem_of_getElem? hm), B1, c6, by omega, by omega, fun r H2 rs z hr S2 B2 st => ?_⟩
    refine ⟨S1.trans S2, r, rs, z, _, S1.free hr, ⟨B2.lst, B2.len, B2.vals, fun j hj => (B2.ok j hj).mono (by omega) (by omega)⟩, ?_, rfl⟩
    rw [List.take_add_one, hm]
    exact ST.snoc st
  · rintro σ H1 ⟨S1, b, qs, y, v3, hb, B1, ST, rfl⟩
    rw [List.length_map, lps] at B1 ST
    rw [List.take_length] at ST
    exact ⟨_, rfl, kq b H1 qs y hb S1 B1 ST⟩
end
end K73

set_option maxHeartbeats 4000000
namespace K73
open PySem PySem.Spec PyProof.Rows L2 Am Pc Ba
theorem atm {ns : List Int} {z : Int} (h : 0 < ns.length) : ∃ i, i < ns.length ∧ atI (ns.map V.int) (z % ((ns.map V.int).length : Nat)) = some (.int (ns.getD i 0)) := by
  have l : (ns.map V.int).length = ns.length := List.length_map ..
  have h0 := Int.emod_nonneg z (show ((ns.map V.int).length : Int) ≠ 0 by omega)
  have h1 := Int.emod_lt_of_pos z (show (0 : Int) < ((ns.map V.int).length : Nat) by omega)
  refine ⟨(z % ((ns.map V.int).length : Nat)).toNat, by omega, ?_⟩
  have e : z % ((ns.map V.int).length : Nat) = (((z % ((ns.map V.int).length : Nat)).toNat : Nat) : Int) := by omega
  rw [e]
  refine L2.atI_nat ?_
  rw [Int.toNat_natCast, List.getElem?_map, List.getElem?_eq_getElem (by omega), List.getD_eq_getElem?_getD, List.getElem?_eq_getElem (by omega)]
  rfl
theorem light_at {ns : List Int} (l : Light ns) (i : Nat) : Sz 1048576 (ns.getD i 0) := by
  rw [List.getD_eq_getElem?_getD]
  by_cases h : i < ns.length
  · rw [List.getElem?_eq_getElem h]
    exact l _ (List.getElem_mem h)
  · rw [List.getElem?_eq_none (by omega)]
    exact Nat.two_pow_pos _
def spNumber (K : PySem.W.Frag) : Sp := fun vs H Q _ => ∃ (a : Addr) (ns : List Int) (z : Int), vs = [.ref a, .int z] ∧ SqL K H a (ns.map V.int) ∧ Light ns ∧ 0 ≤ z ∧ z ≤ 1000 ∧ ∀ n : Int, 0 ≤ n → n < 2147483549 → Q (.int n) H
theorem all2 {x y u v : Int} : x % 2 + y % 2 + u % 2 + v % 2 = 0 ↔ x % 2 = 0 ∧ y % 2 = 0 ∧ u % 2 = 0 ∧ v % 2 = 0 := by omega
section
variable {P : Program} {w : World} {K : PySem.W.Frag} {mg : Str → Option Value} {base : Heap} {k : Nat} {h : Heap}
theorem sc_number : FnScope ["_law_script", "_law_k", "_law_cell", "_law_number_here"] ["_law_script", "_law_k"] (defScope (top 54)) := ⟨rfl, rfl, rfl, by decide +kernel, rfl, by decide +kernel, by decide +kernel⟩
theorem ok_number (F : FunAt K "_law_number" (top 54) .none) (X : K.In h) (G : h.Ns mainGlobals mg) (B : Bs mg) : Cal P w K mg base (k + 1) "_law_number" ["_law_script", "_law_k"] (spNumber K) := by
  have nd := sc_number.nd
  refine F.cal X G sc_number (bnd2 fun _ _ _ _ _ _ _ _ => rfl) (fun vs H Q E h => ?_) (fun f cdv A outer s H vs Q E hr h => ?_)
  · obtain ⟨a, ns, z, rfl, _⟩ := h; rfl
  obtain ⟨a, ns, z, rfl, hS, lt, z0, z1, kq⟩ := h
  have sz : Sz 10 z := by unfold Sz; omega
  refine ⟨_, (@pss_cons _ _ _ _ _ (@ps_set _ _ 2 _ _ _ _ nd rfl (Or.inl rfl) pe_int rfl (.inl rfl))
    (@pss_cut _ _ _ _ _ (ps_if (pt_cmpR op_gt (pe_callB call_len_seq rfl B.len PySem.boot_len (pa_cons (pv 0) pa_nil)) pe_int (nomark _))
      (@pss_one _ _ _ (@ps_set _ _ 2 _ _ _ _ nd rfl (Or.inl rfl) (pe_ix ix_list (pv 0) (pe_op op_mod (pv 1) (pe_callB call_len_seq rfl B.len PySem.boot_len (pa_cons (pv 0) pa_nil))) (fun _ _ => rfl)) rfl (.inl rfl)))
      pss_nil)
    (@pss_cut _ _ _ _ _ (@ps_set _ _ 3 _ _ _ _ nd rfl (Or.inl rfl) (pe_op op_mod (pe_op op_add (pe_op op_mul (pv 2) pe_int) (pe_op op_mul (pe_op op_add (pe_op op_mulG (pe_op op_mulG (pv 1) (pv 1)) (pv 1)) pe_int) pe_int)) pe_int) rfl (.inl rfl))
    (@pss_cut _ _ _ _ _ (@ps_set _ _ 3 _ _ _ _ nd rfl (Or.inl rfl) (pe_op op_mod (pe_op op_add (pe_op op_mod (pe_op op_mulG (pv 3) (pv 3)) pe_int) (pe_op op_mul (pe_op op_add (pe_op op_mulG (pv 1) (pv 1)) pe_int) pe_int)) pe_int) rfl (.inl rfl))
    (@pss_one _ _ _ (ps_ret (pe_op op_mod (pe_op op_mulG (pv 3) (pv 3)) pe_int))))))), ?_⟩
  try dsimp only [cxK]
  refine ⟨fun σ' H' => H' = H ∧ ∃ c : Int, Sz 1048576 c ∧ σ' = [some (.ref a), some (.int z), some (.int c), none], ?_, ?_⟩
  · refine ⟨_, rfl, a, _, rfl, .inl hS, _, _, rfl, rfl, _, rfl, decI (fun hp => ?_) (fun _ => ⟨rfl, 0, Nat.two_pow_pos _, rfl⟩)⟩
    have l0 : 0 < ns.length := by rw [List.length_map] at hp; omega
    obtain ⟨i, hi, e⟩ := atm (z := z) l0
    exact ⟨_, rfl, _, rfl, _, rfl, a, _, rfl, .inl hS, _, _, rfl, rfl, (by rw [List.length_map]; omega), a, _, _, _, rfl, rfl, hS, e, rfl, _, light_at lt i, rfl⟩
  rintro σ' H1 ⟨rfl, c, sc, rfl⟩
  refine ⟨fun σ' H' => H' = H1 ∧ ∃ n : Int, 0 ≤ n ∧ n < 2147483647 ∧ σ' = [some (.ref a), some (.int z), some (.int c), some (.int n)], ?_, ?_⟩
  · exact ⟨_, rfl, _, _, rfl, rfl, .inr ⟨by decide, by decide⟩, _, rfl, _, rfl, _, _, rfl, rfl, ⟨_, _, sz, sz, by decide⟩, _, rfl, _, _, rfl, rfl, ⟨_, _, sz.mul sz, sz, by decide⟩, _, _, rfl, rfl, _, _, rfl, rfl, .inr ⟨by decide, by decide⟩, _, _, rfl, rfl, _, _, rfl, rfl, (show (0 : Int) < 2147483647 by decide), rfl, _, Int.emod_nonneg _ (by decide), Int.emod_lt_of_pos _ (by decide), rfl⟩
  rintro σ' H2 ⟨rfl, n, n0, n1, rfl⟩
  have sn : Sz 31 n := by unfold Sz; omega
  refine ⟨fun σ' H' => H' = H2 ∧ ∃ n : Int, 0 ≤ n ∧ n < 2147483563 ∧ σ' = [some (.ref a), some (.int z), some (.int c), some (.int n)], ?_, ?_⟩
  · exact ⟨_, rfl, _, rfl, _, _, rfl, rfl, ⟨_, _, sn, sn, by decide⟩, _, _, rfl, rfl, (show (0 : Int) < 2147483629 by decide), _, rfl, _, rfl, _, _, rfl, rfl, ⟨_, _, sz, sz, by decide⟩, _, _, rfl, rfl, _, _, rfl, rfl, .inr ⟨by decide, by decide⟩, _, _, rfl, rfl, _, _, rfl, rfl, (show (0 : Int) < 2147483563 by decide), rfl, _, Int.emod_nonneg _ (by decide), Int.emod_lt_of_pos _ (by decide), rfl⟩
  rintro σ' H3 ⟨rfl, n, n0, n1, rfl⟩
  have sn : Sz 31 n := by unfold Sz; omega
  exact ⟨_, rfl, _, rfl, _, _, rfl, rfl, ⟨_, _, sn, sn, by decide⟩, _, _, rfl, rfl, (show (0 : Int) < 2147483549 by decide), kq _ (Int.emod_nonneg _ (by decide)) (Int.emod_lt_of_pos _ (by decide))⟩
theorem sc_lowest : FnScope ["_law_four", "_law_halvings"] ["_law_four", "_law_halvings"] (defScope (top 55)) := ⟨rfl, rfl, rfl, by decide +kernel, rfl, by decide +kernel, by decide +kernel⟩
theorem ok_lowest (F : FunAt K "_law_lowest" (top 55) .none) (X : K.In h) (G : h.Ns mainGlobals mg) (B : Bs mg) : Cal P w K mg base (k + 1) "_law_lowest" ["_law_four", "_law_halvings"] spLow := by
  have nd := sc_lowest.nd
  refine F.cal X G sc_lowest (bnd2 fun _ _ _ _ _ _ _ _ => rfl) (fun vs H Q E h => ?_) (fun f cdv A outer s H vs Q E hr h => ?_)
  · obtain ⟨l, a, b, c, d, h, rfl, _⟩ := h; rfl
  obtain ⟨l, a, b, c, d, h, rfl, hl, h0, q⟩ := h
  refine ⟨_, (@pss_cons _ _ _ _ _ (ps_while PassesOwn.never (PW.pt (pw_and (pt_cmpR op_gt (pv 1) pe_int (nomark _)) (pw_and1 (pt_cmpR op_eq (pe_op op_add (pe_op op_add (pe_op op_add (pe_op op_mod (pe_ix ix_list (pv 0) pe_int (fun _ _ => rfl)) pe_int) (pe_op op_mod (pe_ix ix_list (pv 0) pe_int (fun _ _ => rfl)) pe_int)) (pe_op op_mod (pe_ix ix_list (pv 0) pe_int (fun _ _ => rfl)) pe_int)) (pe_op op_mod (pe_ix ix_list (pv 0) pe_int (fun _ _ => rfl)) pe_int)) pe_int (nomark _)))))
      (@pss_cons _ _ _ _ _ (ps_setLc (i := 0) rfl nd rfl rfl (LcOk.of (Nc := ["_law_one"]) (mp := [none]) (by kernel_rfl)) (pi_list (pv 0)) (fun _ _ _ _ => (pg_name (i := 0) (show (["_law_one"] : List Str).Nodup by decide +kernel) rfl (Or.inl rfl))) (fun _ _ _ _ => (pe_op op_fdiv (pv 0) pe_int)) rfl)
      (@pss_one _ _ _ (@ps_set _ _ 1 _ _ _ _ nd rfl (Or.inl rfl) (pe_op op_sub (pv 1) pe_int) rfl (.inl rfl)))))
    (@pss_one _ _ _ (ps_ret (@pe_tup _ _ _ _ _ (pa_cons (pe_ix ix_list (pv 0) pe_int (fun _ _ => rfl)) (pa_cons (pe_ix ix_list (pv 0) pe_int (fun _ _ => rfl)) (pa_cons (pe_ix ix_list (pv 0) pe_int (fun _ _ => rfl)) (pa_cons (pe_ix ix_list (pv 0) pe_int (fun _ _ => rfl)) (pa_cons (pv 1) pa_nil))))))))), ?_⟩
  try dsimp only [cxK]
  refine ⟨fun m σ H' => ∃ l' x y u v g, m = g.toNat ∧ σ = [some (.ref l'), some (.int g)] ∧ Same H H' ∧ H' l' = some (.lst ([x, y, u, v].map V.int)) ∧ Hv a b c d h x y u v g, ⟨_, l, a, b, c, d, h, rfl, rfl, Same.refl _, hl, ⟨rfl, rfl, rfl, rfl⟩, Nat.le_refl _, Nat.le_refl _, Nat.le_refl _, Nat.le_refl _, Int.le_refl _, h0⟩, ?_⟩
  rintro m σ H2 ⟨l', x, y, u, v, g, rfl, rfl, s2, l2, hv⟩
  have l3 : SqL K H2 l' ([x, y, u, v].map V.int) := SqL.of l2
  refine ⟨_, rfl, _, _, rfl, rfl, _, rfl, decI (fun cg => ?_) (fun cg => ?_)⟩
  · refine ⟨_, rfl, l', _, _, _, rfl, rfl, l3, rfl, _, _, rfl, rfl, p_2, _, rfl, l', _, _, _, rfl, rfl, l3, rfl, _, _, rfl, rfl, p_2, _, _, rfl, rfl, _, rfl, l', _, _, _, rfl, rfl, l3, rfl, _, _, rfl, rfl, p_2, _, _, rfl, rfl, _, rfl, l', _, _, _, rfl, rfl, l3, rfl, _, _, rfl, rfl, p_2, _, _, rfl, rfl, rfl, _, rfl, eqI (fun c => ?_) (fun c => ?_)⟩
    · refine ⟨_, fun _ _ h => h, _, rfl, l', rfl, ⟨_, l3⟩, fun ac hac => ?_⟩
      refine lc_listP (ns := [x, y, u, v]) (fr := []) (fun n => .int (n / 2)) l3 t4 hac (fun n H3 N _ kN => ⟨_, rfl, _, _, rfl, rfl, ⟨by decide, by decide⟩, kN⟩) (fun H4 s4 a4 => ?_)
      refine ⟨_, rfl, _, _, rfl, rfl, ?_⟩
      exact ⟨(g - 1).toNat, by omega, ac, x / 2, y / 2, u / 2, v / 2, g - 1, rfl, rfl, s2.trans s4, a4, hv.half cg (all2.mp c)⟩
    · have o : x % 2 = 1 ∨ y % 2 = 1 ∨ u % 2 = 1 ∨ v % 2 = 1 := by
        have : ¬ (x % 2 = 0 ∧ y % 2 = 0 ∧ u % 2 = 0 ∧ v % 2 = 0) := fun z => c (all2.mpr z)
        omega
      refine ⟨_, rfl, l', _, _, _, rfl, rfl, l3, rfl, _, rfl, l', _, _, _, rfl, rfl, l3, rfl, _, rfl, l', _, _, _, rfl, rfl, l3, rfl, _, rfl, l', _, _, _, rfl, rfl, l3, rfl, _, rfl, t5, fun t ht => ?_⟩
      exact q t _ x y u v g (s2.trans (same_new ht _)) upd_same (hv.red (.inr o))
  · refine ⟨_, rfl, l', _, _, _, rfl, rfl, l3, rfl, _, rfl, l', _, _, _, rfl, rfl, l3, rfl, _, rfl, l', _, _, _, rfl, rfl, l3, rfl, _, rfl, l', _, _, _, rfl, rfl, l3, rfl, _, rfl, t5, fun t ht => ?_⟩
    exact q t _ x y u v g (s2.trans (same_new ht _)) upd_same (hv.red (.inl (by have := hv.nn; omega)))
end
end K73

set_option maxHeartbeats 4000000
namespace K73
open PySem PySem.Spec PyProof.Rows L2 Am Pc Ba
theorem s5z {x : Int} (h1 : -16 < x) (h2 : x < 16) : Sz 100 x := Sz.mono (j := 5) (by unfold Sz; omega) (by decide)
def F4 (H : Hp) (l : Addr) : Prop := ∃ xs : List Int, H l = some (.lst (xs.map V.int)) ∧ xs.length = 4 ∧ ∀ x ∈ xs, Sz 100 x
theorem ixn {N i : Nat} (h : i < N) : ixN N (i : Int) = some i := by
  unfold ixN
  rw [if_pos (Int.natCast_nonneg i), if_pos (by omega), Int.toNat_natCast]
theorem f4_put {H : Hp} {l : Addr} {xs : List Int} {j : Nat} {v : Int} (h : H l = some (.lst (xs.map V.int))) (hl : xs.length = 4) (hz : ∀ x ∈ xs, Sz 100 x) (hv : Sz 100 v) : F4 (upd H l (.lst ((xs.map V.int).set j (.int v)))) l := by
  refine ⟨xs.set j v, by rw [upd_same, List.map_set], by rw [List.length_set, hl], fun x hx => ?_⟩
  rcases List.mem_or_eq_of_mem_set hx with h | h
  · exact hz x h
  · rw [h]; exact hv
theorem four_of {xs : List Int} (h : xs.length = 4) : ∃ a b c d, xs = [a, b, c, d] := by
  match xs, h with
  | [a, b, c, d], _ => exact ⟨a, b, c, d, rfl⟩
theorem ten30 : (0 : Int) < 10 ^ (30 : Int).toNat := by decide +kernel
theorem sz_30 {x : Int} : Sz 100 (x % 10 ^ (30 : Int).toNat - 5 * 10 ^ (29 : Int).toNat) := by
  have h1 := Int.emod_nonneg x (Int.ne_of_gt ten30)
  have h2 := Int.emod_lt_of_pos x ten30
  have h3 : (10 : Int) ^ (30 : Int).toNat < 2 ^ 100 := by decide +kernel
  have h4 : (5 : Int) * 10 ^ (29 : Int).toNat < 10 ^ (30 : Int).toNat := by decide +kernel
  have h5 : (0 : Int) ≤ 5 * 10 ^ (29 : Int).toNat := by decide +kernel
  generalize x % 10 ^ (30 : Int).toNat = y at *
  generalize (10 : Int) ^ (30 : Int).toNat = t at *
  generalize (5 : Int) * 10 ^ (29 : Int).toNat = u at *
  unfold Sz
  omega
def spAmtN : Sp := fun vs H Q _ => ∃ n : Int, vs = [.int n] ∧ 0 ≤ n ∧ n < 2147483549 ∧ ∀ (p : Addr) (H' : Hp) (x : A5), Same H H' → H' p = some (tA x) → Ok5 100 40 x → Q (.ref p) H'
theorem low_ok {a b c d h : Int} {x y z u g : Int} (r : Red a b c d h x y z u g) (s : Sz4 100 a b c d) (h40 : h ≤ 40) : Ok5 100 40 ((x, y, z, u), g) := ⟨r.sz s, r.amt, Int.le_trans r.le h40⟩
section
variable {P : Program} {w : World} {K : PySem.W.Frag} {mg : Str → Option Value} {base : Heap} {k : Nat} {h : Heap}
theorem low_call {H0 H : Hp} {l : Addr} {hh : Int} {Q : VK} (hf : F4 H l) (S : Same H0 H) (h0 : 0 ≤ hh) (h1 : hh ≤ 40) (q : ∀ (p : Addr) (H' : Hp) (x : A5), Same H0 H' → H' p = some (tA x) → Ok5 100 40 x → Q (.ref p) H') {E : XK} : spLow [.ref l, .int hh] H Q E := by
  obtain ⟨xs, hx, hl, hz⟩ := hf
  obtain ⟨a, b, c, d, rfl⟩ := four_of hl
  exact ⟨l, a, b, c, d, hh, rfl, hx, h0, fun p H' x y z u g s' e' r' => q p H' ((x, y, z, u), g) (S.trans s') e' (low_ok r' ⟨hz a (by simp), hz b (by simp), hz c (by simp), hz d (by simp)⟩ h1)⟩
theorem sc_amtn : FnScope ["_law_number_here", "_law_way", "_law_left", "_law_four", "_law_k"] ["_law_number_here"] (defScope (top 56)) := ⟨rfl, rfl, rfl, by decide +kernel, rfl, by decide +kernel, by decide +kernel⟩
theorem ok_amtn (F : FunAt K "_law_amount" (top 56) .none) (X : K.In h) (G : h.Ns mainGlobals mg) (B : Bs mg) (c__law_lowest : Cal P w K mg base k "_law_lowest" ["_law_four", "_law_halvings"] spLow) : Cal P w K mg base (k + 1) "_law_amount" ["_law_number_here"] spAmtN := by
  have nd := sc_amtn.nd
  refine F.cal X G sc_amtn (bnd1 fun _ _ _ _ _ _ _ => rfl) (fun vs H Q E h => ?_) (fun f cdv A outer s H vs Q E hr h => ?_)
  · obtain ⟨n, rfl, _⟩ := h; rfl
  obtain ⟨n, rfl, n0, n1, q⟩ := h
  refine ⟨_, (@pss_cons _ _ _ _ _ (@ps_set _ _ 1 _ _ _ _ nd rfl (Or.inl rfl) (pe_op op_mod (pv 0) pe_int) rfl (.inl rfl))
    (@pss_cons _ _ _ _ _ (@ps_set _ _ 2 _ _ _ _ nd rfl (Or.inl rfl) (pe_op op_fdiv (pv 0) pe_int) rfl (.inl rfl))
    (@pss_cons _ _ _ _ _ (@ps_set _ _ 3 _ _ _ _ nd rfl (Or.inl rfl) (@pe_lst _ _ _ _ (pa_cons pe_int (pa_cons pe_int (pa_cons pe_int (pa_cons pe_int pa_nil))))) rfl (.inl rfl))
    (@pss_cons _ _ _ _ _ (ps_if (pt_cmpR op_eq (pv 1) pe_int (nomark _))
      (@pss_one _ _ _ (ps_ret (@pe_tup _ _ _ _ _ (pa_cons pe_int (pa_cons pe_int (pa_cons pe_int (pa_cons pe_int (pa_cons pe_int pa_nil))))))))
      pss_nil)
    (@pss_cons _ _ _ _ _ (ps_if (pt_cmpR op_eq (pv 1) pe_int (nomark _))
      (@pss_cons _ _ _ _ _ (ps_asg (pe_op op_sub pe_int (pe_op op_mul (pe_op op_mod (pe_op op_fdiv (pv 2) pe_int) pe_int) pe_int)) (pg_sub (pv 3) (pe_op op_mod (pv 2) pe_int) set_list))
      (@pss_one _ _ _ (ps_ret (pe_cal c__law_lowest hr rfl (pa_cons (pv 3) (pa_cons (pe_op op_mod (pe_op op_fdiv (pv 2) pe_int) pe_int) pa_nil))))))
      pss_nil)
    (@pss_cons _ _ _ _ _ (ps_if (pt_cmpR op_lt (pv 1) pe_int (nomark _))
      (@pss_cons _ _ _ _ _ (ps_for PassesOwn.never rfl (pi_range1 rfl B.range (pa_cons pe_int pa_nil)) (pg_name (i := 4) nd rfl (Or.inl rfl))
        (@pss_cons _ _ _ _ _ (ps_asg (pe_op op_sub (pe_op op_mod (pv 2) pe_int) pe_int) (pg_sub (pv 3) (pv 4) set_list))
        (@pss_one _ _ _ (@ps_set _ _ 2 _ _ _ _ nd rfl (Or.inl rfl) (pe_op op_fdiv (pv 2) pe_int) rfl (.inl rfl)))))
      (@pss_one _ _ _ (ps_ret (pe_cal c__law_lowest hr rfl (pa_cons (pv 3) (pa_cons (pe_op op_mod (pv 2) pe_int) pa_nil))))))
      pss_nil)
    (@pss_cons _ _ _ _ _ (ps_for PassesOwn.never rfl (pi_range1 rfl B.range (pa_cons pe_int pa_nil)) (pg_name (i := 4) nd rfl (Or.inl rfl))
      (@pss_one _ _ _ (ps_asg (pe_op op_sub (pe_op op_mod (pe_op op_mulG (pe_op op_mulG (pv 2) (pe_op op_add (pe_op op_pow pe_int pe_int) pe_int)) (pe_op op_add (pe_op op_mulG (pv 4) (pv 4)) pe_int)) (pe_op op_pow pe_int pe_int)) (pe_op op_mul pe_int (pe_op op_pow pe_int pe_int))) (pg_sub (pv 3) (pv 4) set_list))))
    (@pss_one _ _ _ (ps_ret (pe_cal c__law_lowest hr rfl (pa_cons (pv 3) (pa_cons (pe_op op_mod (pv 2) pe_int) pa_nil)))))))))))), ?_⟩
  try dsimp only [cxK]
  refine ⟨_, rfl, _, _, rfl, rfl, (show (0 : Int) < 5 by decide), ?_⟩
  refine ⟨_, rfl, _, _, rfl, rfl, ⟨by decide, by decide⟩, ?_⟩
  refine ⟨t4, fun l hl => ?_⟩
  have S1 := same_new hl (.lst [V.int 0, V.int 0, V.int 0, V.int 0])
  have e1 : upd H l (.lst [V.int 0, V.int 0, V.int 0, V.int 0]) l = some (.lst ([0, 0, 0, 0].map V.int)) := upd_same
  have z4 : ∀ x ∈ ([0, 0, 0, 0] : List Int), Sz 100 x := fun x hx => by
    simp at hx
    subst hx
    exact s5z (by decide) (by decide)
  have L0 : 0 ≤ n / 5 := by omega
  have L1 : n / 5 < 2147483549 := by omega
  refine ⟨_, rfl, rfl, _, rfl, eqI (fun _ => ?_) (fun _ => ?_)⟩
  · exact ⟨t5, fun t ht => q t _ ((0, 0, 0, 0), 0) (S1.trans (same_new ht _)) upd_same ⟨⟨s5z (by decide) (by decide), s5z (by decide) (by decide), s5z (by decide) (by decide), s5z (by decide) (by decide)⟩, ⟨Int.le_refl 0, .inl rfl⟩, (by decide : (0 : Int) ≤ 40)⟩⟩
  refine ⟨_, rfl, rfl, _, rfl, eqI (fun _ => ?_) (fun _ => ?_)⟩
  · have m0 := Int.emod_nonneg (n / 5) (show (4 : Int) ≠ 0 by decide)
    have m1 := Int.emod_lt_of_pos (n / 5) (show (0 : Int) < 4 by decide)
    have em : n / 5 % 4 = (((n / 5 % 4).toNat : Nat) : Int) := by omega
    refine ⟨_, rfl, _, _, rfl, rfl, ⟨by decide, by decide⟩, _, _, rfl, rfl, p_2, _, _, rfl, rfl, .inr ⟨by decide, by decide⟩, _, _, rfl, rfl, ?_⟩
    refine ⟨_, rfl, _, rfl, _, _, rfl, rfl, p_4, l, _, _, (n / 5 % 4).toNat, rfl, rfl, e1, (by rw [em]; exact ixn (by simp; omega)), ?_⟩
    have f4 := f4_put (j := (n / 5 % 4).toNat) (v := 1 - n / 5 / 4 % 2 * 2) e1 rfl z4 (s5z (by omega) (by omega))
    exact ⟨_, rfl, _, rfl, _, _, rfl, rfl, ⟨by decide, by decide⟩, _, _, rfl, rfl, (show (0 : Int) < 3 by decide), low_call (E := E0) f4 (same_upd S1 hl) (Int.emod_nonneg _ (by decide)) (by have := Int.emod_lt_of_pos (n / 5 / 8) (show (0 : Int) < 3 by decide); omega) q⟩
  refine ⟨_, rfl, _, _, rfl, rfl, _, rfl, decI (fun _ => ?_) (fun _ => ?_)⟩
  · refine ⟨_, rfl, by decide, by decide, ?_⟩
    refine for_range (n := 4) (fun i σ H' => ∃ (left : Int) (v : Option V), 0 ≤ left ∧ Same H H' ∧ F4 H' l ∧ σ = [some (.int n), some (.int (n % 5)), some (.int left), some (.ref l), v]) ⟨n / 5, _, L0, S1, ⟨_, e1, rfl, z4⟩, rfl⟩ ?_ ?_
    · rintro i σ H2 hi ⟨left, v, l0, S2, ⟨xs, hx, xl, xz⟩, rfl⟩
      have ei : (0 : Int) + (i : Int) = (i : Int) := Int.zero_add _
      refine ⟨_, rfl, _, _, rfl, rfl, (show (0 : Int) < 19 by decide), _, _, rfl, rfl, ?_⟩
      refine ⟨_, rfl, _, rfl, l, _, _, i, rfl, rfl, hx, (by rw [ei, List.length_map, xl]; exact ixn hi), ?_⟩
      refine ⟨_, rfl, _, _, rfl, rfl, ⟨by decide, by decide⟩, left / 19, _, by omega, same_upd S2 hl, f4_put hx xl xz (s5z (by omega) (by omega)), rfl⟩
    · rintro σ H2 ⟨left, v, l0, S2, f4, rfl⟩
      exact ⟨_, rfl, _, rfl, _, _, rfl, rfl, p_4, low_call (E := E0) f4 S2 (Int.emod_nonneg _ (by decide)) (by have := Int.emod_lt_of_pos left (show (0 : Int) < 4 by decide); omega) q⟩
  · refine ⟨_, rfl, by decide, by decide, ?_⟩
    have sl : Sz 31 (n / 5) := by unfold Sz; omega
    have s22 : Sz 80 ((10 : Int) ^ (22 : Int).toNat + 9) := by decide +kernel
    refine for_range (n := 4) (fun i σ H' => ∃ (v : Option V), Same H H' ∧ F4 H' l ∧ σ = [some (.int n), some (.int (n % 5)), some (.int (n / 5)), some (.ref l), v]) ⟨_, S1, ⟨_, e1, rfl, z4⟩, rfl⟩ ?_ ?_
    · rintro i σ H2 hi ⟨v, S2, ⟨xs, hx, xl, xz⟩, rfl⟩
      have ei : (0 : Int) + (i : Int) = (i : Int) := Int.zero_add _
      have si : Sz 3 (0 + (i : Int)) := by unfold Sz; omega
      have si3 : Sz 7 ((0 + (i : Int)) * (0 + (i : Int)) + 3) := ((si.mul si).add (show Sz 2 3 by unfold Sz; omega)).mono (by decide)
      refine ⟨_, rfl, _, _, rfl, rfl, ⟨by decide, by decide, by decide⟩, _, _, rfl, rfl, _, _, rfl, rfl, ⟨_, _, sl, s22, by decide⟩, _, rfl, _, rfl, _, _, rfl, rfl, ⟨_, _, si, si, by decide⟩, _, _, rfl, rfl, _, _, rfl, rfl, ⟨_, _, sl.mul s22, si3, by decide⟩, _, _, rfl, rfl, ⟨by decide, by decide, by decide⟩, _, _, rfl, rfl, ten30, _, _, rfl, rfl, ⟨by decide, by decide, by decide⟩, _, _, rfl, rfl, .inl ⟨by decide, by decide⟩, _, _, rfl, rfl, ?_⟩
      refine ⟨_, rfl, _, rfl, l, _, _, i, rfl, rfl, hx, (by rw [ei, List.length_map, xl]; exact ixn hi), ?_⟩
      exact ⟨_, same_upd S2 hl, f4_put hx xl xz sz_30, rfl⟩
    · rintro σ H2 ⟨v, S2, f4, rfl⟩
      exact ⟨_, rfl, _, rfl, _, _, rfl, rfl, (show (0 : Int) < 40 by decide), low_call (E := E0) f4 S2 (Int.emod_nonneg _ (by decide)) (by have := Int.emod_lt_of_pos (n / 5) (show (0 : Int) < 40 by decide); omega) q⟩
end
end K73

set_option maxHeartbeats 4000000
namespace K73
open PySem PySem.Spec PyProof.Rows L2 Am Pc Ba
theorem vals_set {K : PySem.W.Frag} {H : Hp} {ps : List Addr} {f : Nat → A5} {p : Addr} {x : A5} {j : Nat} (v : ValsK K H ps f) (e : At5 K H p x) : ValsK K H (ps.set j p) (fun i => if i = j then x else f i) := by
  intro i q hq
  by_cases hi : i = j
  · subst hi
    rw [List.getElem?_set_self'] at hq
    show At5 K H q (if i = i then x else f i)
    rw [if_pos rfl]
    cases h : ps[i]? with
    | none => rw [h] at hq; cases hq
    | some r => rw [h] at hq; cases hq; exact e
  · rw [List.getElem?_set_ne (fun z => hi z.symm)] at hq
    show At5 K H q (if i = j then x else f i)
    rw [if_neg hi]
    exact v i q hq
theorem Bd5.put {K : PySem.W.Frag} {H : Hp} {l p : Addr} {ps : List Addr} {f : Nat → A5} {c n m j : Nat} {x : A5} (b : Bd5 K H l ps f c n m) (hp : At5 K H p x) (ox : Ok5 n m x) : Bd5 K (upd H l (.lst ((ps.map V.ref).set j (.ref p)))) l (ps.set j p) (fun i => if i = j then x else f i) c n m := by
  refine ⟨by rw [upd_same, List.map_set], by rw [List.length_set, b.len], vals_upd (vals_set b.vals hp) b.lst, fun i hi => ?_⟩
  show Ok5 n m (if i = j then x else f i)
  split
  · exact ox
  · exact b.ok i hi
def spBoardN (K : PySem.W.Frag) : Sp := fun vs H Q _ => ∃ (a : Addr) (ns : List Int) (c : Nat), vs = [.ref a, .int c] ∧ SqL K H a (ns.map V.int) ∧ Light ns ∧ 1 ≤ c ∧ c ≤ 6 ∧
  ∀ (l : Addr) (H' : Hp) (ps : List Addr) (f : Nat → A5), Same H H' → H l = none → Bd5 K H' l ps f c 100 40 → Q (.ref l) H'
theorem lc_asked {K : PySem.W.Frag} {l : Addr} {ps : List Addr} {f : Nat → A5} {c n m : Nat} {te : TE} {fr : L2.St} {H1 : Hp} {acc : Addr} {Q : VK} (BD : Bd5 K H1 l ps f c n m) (c6 : c ≤ 6) (hacc : H1 acc = none)
    (hs : ∀ p x H (N : V → Hp → Prop), At5 K H p x → (∀ t (b : Bool), H t = none → N (.bl b) (upd H t (tA ((0, 0, 0, 0), 0)))) → te (some (.ref p) :: fr) H N)
    (hd : ∀ H2 (bs : List Bool), Same H1 H2 → H2 acc = some (.lst (bs.map V.bl)) → Q (.ref acc) H2) : LcW (Itl K l) (gName 0) te (none :: fr) H1 acc Q := by
  have p6 := pow6 c6
  have lps : (ps.map V.ref).length = 2 ^ c := by rw [List.length_map, BD.len]
  refine lc_list (K := K) (a := l) (xs := ps.map V.ref) (fr := fr) (fun i ys H' => Same H1 H' ∧ H' acc = some (.lst ys) ∧ ∃ bs : List Bool, ys = bs.map V.bl) (by rw [lps]; exact t64 p6) ⟨same_new hacc _, upd_same, [], rfl⟩ (fun i ys H' p => SqL.of (p.1 _ _ BD.lst)) ?_ ?_
  · rintro i x ys H2 N hx hy ⟨s2, a2, bs, rfl⟩ kN
    rw [List.getElem?_map] at hx
    obtain ⟨p, hp, rfl⟩ := Option.map_eq_some_iff.mp hx
    refine hs p (f i) H2 N ((BD.vals i p hp).same s2) fun t b ht => kN _ _ (same_new ht _ _ _ a2) ⟨same_upd (s2.trans (same_new ht _)) hacc, upd_same, bs ++ [b], ?_⟩
    rw [List.map_append]
    rfl
  · rintro ys H2 hl2 ⟨s2, a2, bs, rfl⟩
    exact hd H2 bs s2 a2
theorem one5 {m : Nat} : Ok5 100 (m : Int) ((1, 0, 0, 0), 0) := ⟨⟨s5z (by decide) (by decide), s5z (by decide) (by decide), s5z (by decide) (by decide), s5z (by decide) (by decide)⟩, ⟨Int.le_refl 0, .inl rfl⟩, Int.natCast_nonneg m⟩
section
variable {P : Program} {w : World} {K : PySem.W.Frag} {mg : Str → Option Value} {base : Heap} {k : Nat} {h : Heap}
theorem sc_board : FnScope ["_law_script", "_law_cells", "_law_board_here", "_law_k"] ["_law_script", "_law_cells"] (defScope (top 57)) := ⟨rfl, rfl, rfl, by decide +kernel, rfl, by decide +kernel, by decide +kernel⟩
theorem ok_board (F : FunAt K "_law_board" (top 57) .none) (X : K.In h) (G : h.Ns mainGlobals mg) (B : Bs mg) (c__law_number : Cal P w K mg base k "_law_number" ["_law_script", "_law_k"] (spNumber K)) (c__law_amount : Cal P w K mg base k "_law_amount" ["_law_number_here"] spAmtN) : Cal P w K mg base (k + 1) "_law_board" ["_law_script", "_law_cells"] (spBoardN K) := by
  have nd := sc_board.nd
  refine F.cal X G sc_board (bnd2 fun _ _ _ _ _ _ _ _ => rfl) (fun vs H Q E h => ?_) (fun f cdv A outer s H vs Q E hr h => ?_)
  · obtain ⟨a, ns, c, rfl, _⟩ := h; rfl
  obtain ⟨a, ns, c, rfl, hS, lt, c1, c6, q⟩ := h
  have p6 := pow6 c6
  have p0 : 0 < 2 ^ c := Nat.two_pow_pos c
  refine ⟨_, (@pss_cons _ _ _ _ _ (@ps_set _ _ 2 _ _ _ _ nd rfl (Or.inl rfl) (@pe_lst _ _ _ _ pa_nil) rfl (.inl rfl))
    (@pss_cons _ _ _ _ _ (ps_for PassesOwn.never rfl (pi_range1 rfl B.range (pa_cons (pe_op op_shlS pe_int (pv 1)) pa_nil)) (pg_name (i := 3) nd rfl (Or.inl rfl))
      (@pss_one _ _ _ (ps_expr (pe_bm PySem.F.plainAttrs_list PySem.F.slot_list_append PySem.F.type_list_append mt_append (pv 2) (pa_cons (pe_cal c__law_amount hr rfl (pa_cons (pe_cal c__law_number hr rfl (pa_cons (pv 0) (pa_cons (pv 3) pa_nil))) pa_nil)) pa_nil)))))
    (@pss_cut _ _ _ _ _ (ps_if (pt_val (pe_callB (call_allL rfl) rfl B.all boot_all (pa_cons (pe_lc rfl (LcOk.of (Nc := ["_law_one"]) (mp := [none]) (by kernel_rfl)) (pi_list (pv 2)) (fun _ _ _ _ => (pg_name (i := 0) (show (["_law_one"] : List Str).Nodup by decide +kernel) rfl (Or.inl rfl))) (fun _ _ _ _ => (pe_cmpR (op_eqTIC hr.units) (pv 0) (@pe_tup _ _ _ _ _ (pa_cons pe_int (pa_cons pe_int (pa_cons pe_int (pa_cons pe_int (pa_cons pe_int pa_nil)))))) (nomark _)))) pa_nil)))
      (@pss_one _ _ _ (ps_asg (@pe_tup _ _ _ _ _ (pa_cons pe_int (pa_cons pe_int (pa_cons pe_int (pa_cons pe_int (pa_cons pe_int pa_nil)))))) (pg_sub (pv 2) (pe_op op_mod (pe_cal c__law_number hr rfl (pa_cons (pv 0) (pa_cons pe_int pa_nil))) (pe_callB call_len_seq rfl B.len PySem.boot_len (pa_cons (pv 2) pa_nil))) set_list)))
      pss_nil)
    (@pss_one _ _ _ (ps_ret (pv 2)))))), ?_⟩
  try dsimp only [cxK]
  refine ⟨Nat.zero_le _, fun l hl => ?_⟩
  have hN : (1 : Int) * 2 ^ ((c : Int).toNat) = ((2 ^ c : Nat) : Int) := ipow c
  have hM : (1 * 2 ^ ((c : Int).toNat) : Int).toNat = 2 ^ c := by rw [hN, Int.toNat_natCast]
  refine ⟨_, rfl, _, _, rfl, rfl, ⟨1, sz1, by omega, by omega⟩, _, rfl, by rw [hN]; omega, by rw [hN]; omega, ?_⟩
  rw [hM]
  refine for_range (n := 2 ^ c) (fun j σ H' => ∃ (ps : List Addr) (f : Nat → A5) (v : Option V), Same H H' ∧ H' l = some (.lst (ps.map V.ref)) ∧ ps.length = j ∧ ValsK K H' ps f ∧ (∀ i, Ok5 100 40 (f i)) ∧ σ = [some (.ref a), some (.int c), some (.ref l), v])
    ⟨[], fun _ => ((1, 0, 0, 0), 0), _, same_new hl _, upd_same, rfl, (fun _ _ z => by cases z), (fun _ => one5 (m := 40)), rfl⟩ ?_ ?_
  · rintro j σ H1 hj ⟨ps, f, v, S1, h1, hlen, hv, ok, rfl⟩
    have hS1 := S1.seq hS
    refine ⟨_, rfl, .inl ⟨rfl, _, SqL.of h1⟩, _, rfl, _, rfl, a, ns, _, rfl, hS1, lt, by omega, by omega, fun n n0 n1 => ⟨n, rfl, n0, n1, fun p H2 x s2 e2 o2 => ?_⟩⟩
    refine ⟨l, _, _, rfl, rfl, s2 _ _ h1, (by rw [List.length_map, hlen]; exact Nat.lt_of_lt_of_le (Nat.lt_of_lt_of_le hj p6) (by decide)), ?_⟩
    refine ⟨ps ++ [p], fun i => if i = ps.length then x else f i, some (.int (0 + j)), same_upd (S1.trans s2) hl, ?_, by simp [hlen], vals_upd (vals_push hv s2 (At5.of e2)) (s2 _ _ h1), fun i => ?_, rfl⟩
    · rw [upd_same, List.map_append]; rfl
    · show Ok5 100 40 (if i = ps.length then x else f i)
      split
      · exact o2
      · exact ok i
  · rintro σ H1 ⟨ps, f, v, S1, h1, hlen, hv, ok, rfl⟩
    have B1 : Bd5 K H1 l ps f c 100 40 := ⟨h1, hlen, hv, fun i _ => ok i⟩
    refine ⟨fun σ' H' => ∃ (ps : List Addr) (f : Nat → A5), Same H H' ∧ Bd5 K H' l ps f c 100 40 ∧ σ' = [some (.ref a), some (.int c), some (.ref l), v], ?_, ?_⟩
    · refine ⟨_, rfl, l, rfl, ⟨_, SqL.of h1⟩, fun acc hacc => ?_⟩
      refine lc_asked B1 c6 hacc (fun p x H N e kk => ⟨_, rfl, t5, fun t ht => ⟨p, t, l5 x, [0, 0, 0, 0, 0], rfl, rfl, e.same (same_new ht _), SqT.of upd_same, kk t _ ht⟩⟩) (fun H2 bs s2 a2 => ?_)
      have B2 := B1.same s2
      refine ⟨acc, bs, rfl, SqL.of a2, _, rfl, blI (fun _ => ?_) (fun nb => ⟨ps, f, S1.trans s2, B2, rfl⟩)⟩
      refine ⟨t5, fun t ht => ?_⟩
      have B3 := B2.same (same_new ht (tA ((1, 0, 0, 0), 0)))
      have S3 := (S1.trans s2).trans (same_new ht (tA ((1, 0, 0, 0), 0)))
      refine ⟨_, rfl, _, rfl, a, ns, 70, rfl, S3.seq hS, lt, by decide, by decide, fun n n0 n1 => ?_⟩
      have lq : (ps.map V.ref).length = 2 ^ c := by rw [List.length_map, hlen]
      have e0 := Int.emod_nonneg n (show (((ps.map V.ref).length : Nat) : Int) ≠ 0 by rw [lq]; omega)
      have e1 := Int.emod_lt_of_pos n (show (0 : Int) < ((ps.map V.ref).length : Nat) by rw [lq]; omega)
      have em : n % ((ps.map V.ref).length : Nat) = (((n % ((ps.map V.ref).length : Nat)).toNat : Nat) : Int) := by omega
      refine ⟨_, rfl, l, _, rfl, .inl (SqL.of B3.lst), _, _, rfl, rfl, (by rw [lq]; omega), l, _, _, (n % ((ps.map V.ref).length : Nat)).toNat, rfl, rfl, B3.lst, (by rw [em]; exact ixn (by omega)), ?_⟩
      exact ⟨_, _, same_upd S3 hl, B3.put (At5.of upd_same) (one5 (m := 40)), rfl⟩
    rintro σ' H2 ⟨qs, g, S2, B2, rfl⟩
    exact ⟨_, rfl, q l H2 qs g S2 hl B2⟩
end
end K73

set_option maxHeartbeats 4000000
namespace K73
open PySem PySem.Spec PyProof.Rows L2 Am Pc Ba
section
variable {P : Program} {w : World} {K : PySem.W.Frag} {mg : Str → Option Value} {base : Heap} {k : Nat} {h : Heap}
end
end K73

namespace M71
inductive Mv where
  | flip (a : Int)
  | mix (a : Int)
  | turn (a k : Int)
  | iff (a b : Int)
  | pair (a b : Int)
  | swap (a b : Int)
  | cross (a b d : Int)
deriving DecidableEq
namespace Mv
def cells : Mv → List Int
  | flip a => [a]
  | mix a => [a]
  | turn a _ => [a]
  | iff a b => [a, b]
  | pair a b => [a, b]
  | swap a b => [a, b]
  | cross a b d => [a, b, d]
end Mv
open Mv
end M71

set_option maxHeartbeats 1000000
/-! moves as doings on boards of values; what one step does to a row leaves its doing -/
namespace M72
open M71 M71.Mv
abbrev V4 := Int × Int × Int × Int
def add (x y : V4) : V4 := (x.1 + y.1, x.2.1 + y.2.1, x.2.2.1 + y.2.2.1, x.2.2.2 + y.2.2.2)
def sm (n : Int) (x : V4) : V4 := (n * x.1, n * x.2.1, n * x.2.2.1, n * x.2.2.2)
def E (x : V4) : V4 := (-x.2.2.2, x.1, x.2.1, x.2.2.1)
def En : Nat → V4 → V4
  | 0, x => x
  | n + 1, x => E (En n x)
def root (x : V4) : V4 := (x.2.1 - x.2.2.2, x.1 + x.2.2.1, x.2.1 + x.2.2.2, x.2.2.1 - x.1)
theorem ext {x y : V4} (h1 : x.1 = y.1) (h2 : x.2.1 = y.2.1) (h3 : x.2.2.1 = y.2.2.1) (h4 : x.2.2.2 = y.2.2.2) : x = y := by
  obtain ⟨a, b, c, d⟩ := x
  obtain ⟨a', b', c', d'⟩ := y
  simp only at h1 h2 h3 h4
  rw [h1, h2, h3, h4]
theorem E_add (x y : V4) : E (add x y) = add (E x) (E y) := by apply ext <;> simp only [E, add] <;> omega
theorem E_sm (n : Int) (x : V4) : E (sm n x) = sm n (E x) := by apply ext <;> simp only [E, sm] <;> grind
theorem E_root (x : V4) : E (root x) = root (E x) := by apply ext <;> simp only [E, root] <;> omega
theorem sm_sm (m n : Int) (x : V4) : sm m (sm n x) = sm (m * n) x := by apply ext <;> simp only [sm] <;> grind
theorem sm_one (x : V4) : sm 1 x = x := by apply ext <;> simp only [sm] <;> omega
theorem add_comm (x y : V4) : add x y = add y x := by apply ext <;> simp only [add] <;> omega
theorem En_add (n : Nat) (x y : V4) : En n (add x y) = add (En n x) (En n y) := by
  induction n with
  | zero => rfl
  | succ n ih => simp only [En, ih, E_add]
theorem En_sm (n : Nat) (k : Int) (x : V4) : En n (sm k x) = sm k (En n x) := by
  induction n with
  | zero => rfl
  | succ n ih => simp only [En, ih, E_sm]
theorem En_root (n : Nat) (x : V4) : En n (root x) = root (En n x) := by
  induction n with
  | zero => rfl
  | succ n ih => simp only [En, ih, E_root]
theorem En_En (m n : Nat) (x : V4) : En m (En n x) = En (m + n) x := by
  induction m with
  | zero => rw [Nat.zero_add]; rfl
  | succ m ih => rw [Nat.succ_add]; simp only [En, ih]
theorem En4 (x : V4) : En 4 x = sm (-1) x := by apply ext <;> simp only [En, E, sm] <;> omega
theorem En8 (x : V4) : En 8 x = x := by apply ext <;> simp only [En, E] <;> omega
theorem En_mod (n : Nat) (x : V4) : En n x = En (n % 8) x := by
  have : ∀ q r, En (8 * q + r) x = En r x := by
    intro q r
    induction q with
    | zero => rw [Nat.mul_zero, Nat.zero_add]
    | succ q ih => rw [show 8 * (q + 1) + r = 8 + (8 * q + r) by omega, ← En_En 8, En8, ih]
  conv => lhs; rw [← Nat.div_add_mod n 8]
  exact this _ _
/-! words -/
def fl (w a : Nat) : Nat := w ^^^ 2 ^ a
def sw (w a b : Nat) : Nat := if w.testBit a = w.testBit b then w else fl (fl w a) b
theorem bit_fl (w a j : Nat) : (fl w a).testBit j = (w.testBit j ^^ decide (a = j)) := by
  unfold fl
  rw [Nat.testBit_xor, Nat.testBit_two_pow]
theorem fl_fl (w a : Nat) : fl (fl w a) a = w := by
  unfold fl
  rw [Nat.xor_assoc, Nat.xor_self, Nat.xor_zero]
theorem bit_sw (w a b j : Nat) (h : a ≠ b) : (sw w a b).testBit j = if j = a then w.testBit b else if j = b then w.testBit a else w.testBit j := by
  unfold sw
  by_cases e : w.testBit a = w.testBit b
  · rw [if_pos e]
    split
    · rename_i z; rw [z, e]
    · split
      · rename_i z; rw [z, e]
      · rfl
  · rw [if_neg e, bit_fl, bit_fl]
    by_cases ja : j = a
    · rw [if_pos ja, ja, decide_eq_true rfl, decide_eq_false (fun z => h z.symm)]
      revert e
      cases w.testBit a <;> cases w.testBit b <;> simp
    · rw [if_neg ja]
      by_cases jb : j = b
      · rw [if_pos jb, jb, decide_eq_true (rfl : b = b), decide_eq_false h]
        revert e
        cases w.testBit a <;> cases w.testBit b <;> simp
      · rw [if_neg jb, decide_eq_false (fun z => ja z.symm), decide_eq_false (fun z => jb z.symm)]
        simp
theorem word_ext {w v : Nat} (h : ∀ j, w.testBit j = v.testBit j) : w = v := Nat.eq_of_testBit_eq h
def to : Mv → Nat → Nat
  | .flip a, w => fl w a.toNat
  | iff a b, w => if w.testBit a.toNat then fl w b.toNat else w
  | swap a b, w => sw w a.toNat b.toNat
  | cross a b d, w => if w.testBit a.toNat then sw w b.toNat d.toNat else w
  | _, w => w
def sp : Mv → Nat → Nat
  | turn a k, w => if w.testBit a.toNat then k.toNat else 0
  | pair a b, w => if w.testBit a.toNat && w.testBit b.toNat then 4 else 0
  | _, _ => 0
def sg (w a : Nat) : Int := if w.testBit a then -1 else 1
abbrev Bv := Nat → V4
def op : Mv → Bv → Bv
  | mix a, F => fun w => root (add (sm (sg w a.toNat) (F w)) (F (fl w a.toNat)))
  | m, F => fun w => sm 2 (En (sp m w) (F (to m w)))
def Ok : Mv → Prop
  | .flip a => 0 ≤ a
  | mix a => 0 ≤ a
  | turn a k => 0 ≤ a ∧ 1 ≤ k ∧ k ≤ 7
  | iff a b => 0 ≤ a ∧ 0 ≤ b ∧ a ≠ b
  | pair a b => 0 ≤ a ∧ 0 ≤ b ∧ a ≠ b
  | swap a b => 0 ≤ a ∧ 0 ≤ b ∧ a ≠ b
  | cross a b d => 0 ≤ a ∧ 0 ≤ b ∧ 0 ≤ d ∧ a ≠ b ∧ a ≠ d ∧ b ≠ d
def isMix : Mv → Bool
  | mix _ => true
  | _ => false
theorem op_mono {m : Mv} (h : isMix m = false) (F : Bv) (w : Nat) : op m F w = sm 2 (En (sp m w) (F (to m w))) := by
  cases m <;> first | rfl | cases h
theorem Ok.nn {m : Mv} (ok : Ok m) : ∀ c ∈ m.cells, 0 ≤ c := by
  cases m <;> simp only [Ok, cells] at * <;> simp <;> omega
end M72

set_option maxHeartbeats 1000000
/-! marks that go through moves, as operators -/
namespace M75
open M71 M71.Mv M72 Pc
def bn (b : Bool) : Nat := if b then 1 else 0
def bp (x : Nat) : Bool := decide (pc x % 2 = 1)
theorem bp_xor (x y : Nat) : bp (x ^^^ y) = (bp x ^^ bp y) := by
  unfold bp
  have := pcx x y
  have c : pc (x ^^^ y) % 2 = (pc x % 2 + pc y % 2) % 2 := by omega
  rw [c]
  rcases Nat.mod_two_eq_zero_or_one (pc x) with a | a <;> rcases Nat.mod_two_eq_zero_or_one (pc y) with b | b <;> rw [a, b] <;> rfl
theorem pc_two (a : Nat) : pc (2 ^ a) = 1 := by
  induction a with
  | zero => decide +kernel
  | succ n ih =>
    have h0 : (2 : Nat) ^ (n + 1) ≠ 0 := Nat.ne_of_gt (Nat.two_pow_pos _)
    unfold pc
    rw [dif_neg h0, Nat.pow_succ, Nat.mul_mod_left, Nat.mul_div_cancel _ (by decide), ih]
theorem bp_zero : bp 0 = false := by decide +kernel
theorem bp_bit (s a : Nat) : bp (2 ^ a &&& s) = s.testBit a := by
  have e : (2 ^ a &&& s) = if s.testBit a then 2 ^ a else 0 := by
    apply Nat.eq_of_testBit_eq
    intro j
    rw [Nat.testBit_and, Nat.testBit_two_pow]
    by_cases h : a = j
    · subst h
      cases hb : s.testBit a <;> simp
    · cases hb : s.testBit a <;> simp [h, Nat.testBit_two_pow]
  rw [e]
  cases s.testBit a
  · exact bp_zero
  · show bp (2 ^ a) = true
    unfold bp
    rw [pc_two]
    rfl
theorem and_fl (x s a : Nat) : bp (fl x a &&& s) = (bp (x &&& s) ^^ s.testBit a) := by
  unfold fl
  rw [Nat.and_xor_distrib_right, bp_xor, bp_bit]
theorem and_fl' (x s a : Nat) : bp (x &&& fl s a) = (bp (x &&& s) ^^ x.testBit a) := by
  rw [Nat.and_comm, and_fl, Nat.and_comm s]
theorem bp_sw (x a b : Nat) : bp (sw x a b) = bp x := by
  unfold sw
  split
  · rfl
  · unfold fl
    rw [bp_xor, bp_xor]
    have h : ∀ j, bp (2 ^ j) = true := fun j => by unfold bp; rw [pc_two]; rfl
    rw [h, h]
    cases bp x <;> rfl
abbrev Mk := Nat × Nat × Nat
def lay (m : Mk) (F : Bv) : Bv := fun w => En (2 * m.1 + 4 * bn (bp ((w ^^^ m.2.1) &&& m.2.2))) (F (w ^^^ m.2.1))
def mvd : Mv → Mk → Mk
  | .flip a, (k, f, s) => (if s.testBit a.toNat then (k + 2) % 4 else k, f, s)
  | mix a, (k, f, s) => (if f.testBit a.toNat && s.testBit a.toNat then (k + 2) % 4 else k, if f.testBit a.toNat = s.testBit a.toNat then f else fl f a.toNat, if f.testBit a.toNat = s.testBit a.toNat then s else fl s a.toNat)
  | turn a j, (k, f, s) => if f.testBit a.toNat then ((k + j.toNat / 2) % 4, f, if j.toNat % 4 = 2 then fl s a.toNat else s) else (k, f, s)
  | iff a b, (k, f, s) => (k, if f.testBit a.toNat then fl f b.toNat else f, if s.testBit b.toNat then fl s a.toNat else s)
  | pair a b, (k, f, s) => (if f.testBit a.toNat && f.testBit b.toNat then (k + 2) % 4 else k, f, (if f.testBit b.toNat then fl (if f.testBit a.toNat then fl s b.toNat else s) a.toNat else if f.testBit a.toNat then fl s b.toNat else s))
  | swap a b, (k, f, s) => (k, sw f a.toNat b.toNat, sw s a.toNat b.toNat)
  | _, m => m
def Br : Mv → Prop
  | cross _ _ _ => False
  | turn _ j => j.toNat % 2 = 0
  | _ => True
theorem En_eq {m n : Nat} (h : m % 8 = n % 8) (x : V4) : En m x = En n x := by rw [En_mod m, En_mod n, h]
theorem through {m : Mv} (hm : isMix m = false) {F : Bv} {w : Nat} {p q : Mk} (h1 : to m w ^^^ p.2.1 = to m (w ^^^ q.2.1))
    (h2 : (sp m w + (2 * p.1 + 4 * bn (bp ((to m w ^^^ p.2.1) &&& p.2.2)))) % 8 = (2 * q.1 + 4 * bn (bp ((w ^^^ q.2.1) &&& q.2.2)) + sp m (w ^^^ q.2.1)) % 8) : op m (lay p F) w = lay q (op m F) w := by
  unfold lay
  rw [op_mono hm, op_mono hm, En_sm, En_En, En_En, h1]
  congr 1
  rw [← h1]
  exact En_eq h2 _
theorem fl_xor (w f a : Nat) : fl w a ^^^ f = fl (w ^^^ f) a := by
  unfold fl
  rw [Nat.xor_assoc, Nat.xor_comm (2 ^ a), ← Nat.xor_assoc]
theorem xor_fl (w f a : Nat) : w ^^^ fl f a = fl (w ^^^ f) a := by
  unfold fl
  rw [Nat.xor_assoc]
theorem thr_flip {a : Int} (F : Bv) (w : Nat) (p : Mk) : op (.flip a) (lay p F) w = lay (mvd (.flip a) p) (op (.flip a) F) w := by
  obtain ⟨k, f, s⟩ := p
  refine through rfl (fl_xor _ _ _) ?_
  show (0 + (2 * k + 4 * bn (bp ((fl w a.toNat ^^^ f) &&& s)))) % 8 = (2 * (if s.testBit a.toNat then (k + 2) % 4 else k) + 4 * bn (bp ((w ^^^ f) &&& s)) + 0) % 8
  rw [fl_xor, and_fl]
  cases s.testBit a.toNat <;> cases bp ((w ^^^ f) &&& s) <;> simp [bn] <;> omega
theorem thr_turn {a j : Int} (he : j.toNat % 2 = 0) (hj : j.toNat ≤ 7) (F : Bv) (w : Nat) (p : Mk) : op (turn a j) (lay p F) w = lay (mvd (turn a j) p) (op (turn a j) F) w := by
  obtain ⟨k, f, s⟩ := p
  generalize hJ : j.toNat = J at he hj
  by_cases hf : f.testBit a.toNat = true
  · have e : mvd (turn a j) (k, f, s) = ((k + J / 2) % 4, f, if J % 4 = 2 then fl s a.toNat else s) := by
      show (if _ then _ else _) = _
      rw [if_pos hf, hJ]
    rw [e]
    refine through rfl rfl ?_
    show ((if w.testBit a.toNat then j.toNat else 0) + (2 * k + 4 * bn (bp ((w ^^^ f) &&& s)))) % 8 = (2 * ((k + J / 2) % 4) + 4 * bn (bp ((w ^^^ f) &&& if J % 4 = 2 then fl s a.toNat else s)) + (if (w ^^^ f).testBit a.toNat then j.toNat else 0)) % 8
    have hx : (w ^^^ f).testBit a.toNat = !w.testBit a.toNat := by rw [Nat.testBit_xor, hf]; cases w.testBit a.toNat <;> rfl
    rw [hx, hJ]
    have : J = 0 ∨ J = 2 ∨ J = 4 ∨ J = 6 := by omega
    rcases this with rfl | rfl | rfl | rfl
    · rw [if_neg (show ¬ (0 : Nat) % 4 = 2 by decide)]
      generalize bn (bp ((w ^^^ f) &&& s)) = Z
      cases w.testBit a.toNat <;> simp <;> omega
    · rw [if_pos (show (2 : Nat) % 4 = 2 by decide), and_fl', hx]
      cases w.testBit a.toNat <;> cases bp ((w ^^^ f) &&& s) <;> simp [bn] <;> omega
    · rw [if_neg (show ¬ (4 : Nat) % 4 = 2 by decide)]
      generalize bn (bp ((w ^^^ f) &&& s)) = Z
      cases w.testBit a.toNat <;> simp <;> omega
    · rw [if_pos (show (6 : Nat) % 4 = 2 by decide), and_fl', hx]
      cases w.testBit a.toNat <;> cases bp ((w ^^^ f) &&& s) <;> simp [bn] <;> omega
  · have e : mvd (turn a j) (k, f, s) = (k, f, s) := by
      show (if _ then _ else _) = _
      rw [if_neg hf]
    rw [e]
    refine through rfl rfl ?_
    show ((if w.testBit a.toNat then j.toNat else 0) + _) % 8 = (_ + (if (w ^^^ f).testBit a.toNat then j.toNat else 0)) % 8
    have hx : (w ^^^ f).testBit a.toNat = w.testBit a.toNat := by
      rw [Nat.testBit_xor, (by simpa using hf : f.testBit a.toNat = false)]
      cases w.testBit a.toNat <;> rfl
    rw [hx, Nat.add_comm]
    rfl
theorem bit_fl_ne {w a b : Nat} (h : a ≠ b) : (fl w b).testBit a = w.testBit a := by
  rw [bit_fl, decide_eq_false (fun z : b = a => h z.symm)]
  cases w.testBit a <;> rfl
theorem bit_fl_eq (w a : Nat) : (fl w a).testBit a = !w.testBit a := by
  rw [bit_fl]
  simp
theorem thr_iff {a b : Int} (ne : a.toNat ≠ b.toNat) (F : Bv) (w : Nat) (p : Mk) : op (iff a b) (lay p F) w = lay (mvd (iff a b) p) (op (iff a b) F) w := by
  obtain ⟨k, f, s⟩ := p
  generalize hA : a.toNat = A at ne
  generalize hB : b.toNat = B at ne
  have t : ∀ v, to (iff a b) v = if v.testBit A then fl v B else v := fun v => by show (if _ then _ else _) = _; rw [hA, hB]
  have e : mvd (iff a b) (k, f, s) = (k, if f.testBit A then fl f B else f, if s.testBit B then fl s A else s) := by
    show (_, (if _ then _ else _), (if _ then _ else _)) = _
    rw [hA, hB]
  rw [e]
  have h1 : to (iff a b) w ^^^ f = to (iff a b) (w ^^^ if f.testBit A then fl f B else f) := by
    rw [t, t]
    cases hf : f.testBit A <;> cases hw : w.testBit A <;> simp [hf, hw, Nat.testBit_xor, xor_fl, fl_xor, bit_fl_ne ne, fl_fl]
  refine through rfl h1 ?_
  show (0 + (2 * k + 4 * bn (bp ((to (iff a b) w ^^^ f) &&& s)))) % 8 = (2 * k + 4 * bn (bp ((w ^^^ if f.testBit A then fl f B else f) &&& if s.testBit B then fl s A else s)) + 0) % 8
  rw [Nat.zero_add, Nat.add_zero]
  congr 3
  congr 1
  rw [t]
  cases hf : f.testBit A <;> cases hw : w.testBit A <;> cases hs : s.testBit B <;> simp [xor_fl, fl_xor, and_fl, and_fl', Nat.testBit_xor, hf, hw, hs, bit_fl_ne ne, bit_fl_ne (Ne.symm ne)]
theorem thr_pair {a b : Int} (ne : a.toNat ≠ b.toNat) (F : Bv) (w : Nat) (p : Mk) : op (pair a b) (lay p F) w = lay (mvd (pair a b) p) (op (pair a b) F) w := by
  obtain ⟨k, f, s⟩ := p
  refine through rfl rfl ?_
  show ((if w.testBit a.toNat && w.testBit b.toNat then 4 else 0) + (2 * k + 4 * bn (bp ((w ^^^ f) &&& s)))) % 8 = (2 * (if f.testBit a.toNat && f.testBit b.toNat then (k + 2) % 4 else k) + 4 * bn (bp ((w ^^^ f) &&& (if f.testBit b.toNat then fl (if f.testBit a.toNat then fl s b.toNat else s) a.toNat else if f.testBit a.toNat then fl s b.toNat else s))) + (if (w ^^^ f).testBit a.toNat && (w ^^^ f).testBit b.toNat then 4 else 0)) % 8
  rw [Nat.testBit_xor, Nat.testBit_xor]
  generalize a.toNat = A at *
  generalize b.toNat = B at *
  cases hfa : f.testBit A <;> cases hfb : f.testBit B <;> cases hwa : w.testBit A <;> cases hwb : w.testBit B <;> simp [and_fl', Nat.testBit_xor, hfa, hfb, hwa, hwb] <;> cases bp ((w ^^^ f) &&& s) <;> simp [bn] <;> omega
theorem thr_swap {a b : Int} (ne : a.toNat ≠ b.toNat) (F : Bv) (w : Nat) (p : Mk) : op (swap a b) (lay p F) w = lay (mvd (swap a b) p) (op (swap a b) F) w := by
  obtain ⟨k, f, s⟩ := p
  have h1 : sw w a.toNat b.toNat ^^^ f = sw (w ^^^ sw f a.toNat b.toNat) a.toNat b.toNat := by
    apply word_ext
    intro j
    rw [Nat.testBit_xor, bit_sw _ _ _ _ ne, bit_sw _ _ _ _ ne, Nat.testBit_xor, Nat.testBit_xor, Nat.testBit_xor, bit_sw _ _ _ _ ne, bit_sw _ _ _ _ ne, bit_sw _ _ _ _ ne]
    by_cases ja : j = a.toNat
    · subst ja; simp [Ne.symm ne]
    · by_cases jb : j = b.toNat
      · subst jb; simp [Ne.symm ne]
      · simp [ja, jb]
  refine through rfl h1 ?_
  show (0 + (2 * k + 4 * bn (bp ((sw w a.toNat b.toNat ^^^ f) &&& s)))) % 8 = (2 * k + 4 * bn (bp ((w ^^^ sw f a.toNat b.toNat) &&& sw s a.toNat b.toNat)) + 0) % 8
  have e : ((sw w a.toNat b.toNat ^^^ f) &&& s) = sw ((w ^^^ sw f a.toNat b.toNat) &&& sw s a.toNat b.toNat) a.toNat b.toNat := by
    rw [h1]
    apply word_ext
    intro j
    rw [Nat.testBit_and, bit_sw _ _ _ _ ne, bit_sw _ _ _ _ ne, Nat.testBit_and, Nat.testBit_and, Nat.testBit_and, bit_sw s _ _ _ ne, bit_sw s _ _ _ ne, bit_sw s _ _ _ ne]
    by_cases ja : j = a.toNat
    · subst ja; simp [Ne.symm ne]
    · by_cases jb : j = b.toNat
      · subst jb; simp [Ne.symm ne]
      · simp [ja, jb]
  rw [e, bp_sw, Nat.zero_add, Nat.add_zero]
def sgB (b : Bool) : Int := if b then -1 else 1
theorem En_sg (n : Nat) (b : Bool) (x : V4) : En (n + 4 * bn b) x = sm (sgB b) (En n x) := by
  cases b
  · show En (n + 0) x = sm 1 (En n x)
    rw [sm_one, Nat.add_zero]
  · show En (n + 4) x = sm (-1) (En n x)
    rw [Nat.add_comm, ← En_En, En4]
theorem sg_bit (w a : Nat) : sg w a = sgB (w.testBit a) := by
  unfold sg sgB
  cases w.testBit a <;> rfl
theorem sgB_mul (a b : Bool) : sgB a * sgB b = sgB (a ^^ b) := by cases a <;> cases b <;> rfl
theorem thr_mix {a : Int} (F : Bv) (w : Nat) (p : Mk) : op (mix a) (lay p F) w = lay (mvd (mix a) p) (op (mix a) F) w := by
  obtain ⟨k, f, s⟩ := p
  generalize hA : a.toNat = A
  have eL : ∀ G : Bv, ∀ v, op (mix a) G v = root (add (sm (sgB (v.testBit A)) (G v)) (G (fl v A))) := fun G v => by
    show root (add (sm (sg v a.toNat) (G v)) (G (fl v a.toNat))) = _
    rw [hA, sg_bit]
  have e : mvd (mix a) (k, f, s) = (if f.testBit A && s.testBit A then (k + 2) % 4 else k, if f.testBit A = s.testBit A then f else fl f A, if f.testBit A = s.testBit A then s else fl s A) := by
    show ((if _ then _ else _), (if _ then _ else _), (if _ then _ else _)) = _
    rw [hA]
  rw [e, eL]
  unfold lay
  simp only []
  rw [eL, En_root, En_add, En_sm, En_sg, En_sg, En_sg, En_sg, sm_sm, sm_sm, sgB_mul, sgB_mul, fl_xor, and_fl]
  have k2 : ∀ x : V4, En (2 * ((k + 2) % 4)) x = sm (sgB true) (En (2 * k) x) := fun x => by
    rw [← En_sg]
    exact En_eq (by show (2 * ((k + 2) % 4)) % 8 = (2 * k + 4 * 1) % 8; omega) x
  cases hf : f.testBit A <;> cases hs : s.testBit A
  · simp [Nat.testBit_xor, hf, hs]
  · simp [Nat.testBit_xor, hf, hs, xor_fl, and_fl, and_fl', fl_fl, bit_fl_eq]
    rw [add_comm]
    cases w.testBit A <;> cases bp ((w ^^^ f) &&& s) <;> simp [sgB]
  · simp [Nat.testBit_xor, hf, hs, xor_fl, and_fl, and_fl', fl_fl, bit_fl_eq]
    rw [add_comm]
    cases w.testBit A <;> cases bp ((w ^^^ f) &&& s) <;> simp [sgB]
  · simp [Nat.testBit_xor, hf, hs, k2, sm_sm, sgB_mul]
def mvds : List Mv → Mk → Mk
  | [], m => m
  | x :: r, m => mvds r (mvd x m)
theorem thr_one {m : Mv} (o : Ok m) (b : Br m) (F : Bv) (p : Mk) : op m (lay p F) = lay (mvd m p) (op m F) := by
  funext w
  cases m with
  | flip a => exact thr_flip F w p
  | mix a => exact thr_mix F w p
  | turn a j => exact thr_turn b (by have : 0 ≤ a ∧ 1 ≤ j ∧ j ≤ 7 := o; omega) F w p
  | iff a c => exact thr_iff (by have : 0 ≤ a ∧ 0 ≤ c ∧ a ≠ c := o; omega) F w p
  | pair a c => exact thr_pair (by have : 0 ≤ a ∧ 0 ≤ c ∧ a ≠ c := o; omega) F w p
  | swap a c => exact thr_swap (by have : 0 ≤ a ∧ 0 ≤ c ∧ a ≠ c := o; omega) F w p
  | cross a c d => exact absurd b id
end M75

set_option maxHeartbeats 1000000
namespace M72
open M71 M71.Mv
def rowop : List Mv → Bv → Bv
  | [], F => F
  | m :: ms, F => rowop ms (op m F)
theorem sw_sw {w a b : Nat} (n : a ≠ b) : sw (sw w a b) a b = w := by
  apply word_ext
  intro j
  rw [bit_sw _ _ _ _ n]
  by_cases ja : j = a
  · rw [if_pos ja, bit_sw _ _ _ _ n, if_neg (fun z => n z.symm), if_pos rfl, ja]
  · rw [if_neg ja]
    by_cases jb : j = b
    · rw [if_pos jb, bit_sw _ _ _ _ n, if_pos rfl, jb]
    · rw [if_neg jb, bit_sw _ _ _ _ n, if_neg ja, if_neg jb]
end M72

set_option maxHeartbeats 1000000
namespace M72
open M71 M71.Mv
def VOk (c : Nat) (m : Mv) : Prop := Ok m ∧ ∀ x ∈ m.cells, x < (c : Int)
end M72

set_option maxHeartbeats 4000000
/-! != of boards whose amounts may be kept; of pairs of a row and an empty list -/
namespace L2
open PySem PySem.Spec PyProof.Rows
def Rows5K (K : PySem.W.Frag) (H : Hp) : List Addr → List (List Int) → Prop := Paired fun p ns => SqT K H p (ns.map V.int)
section
variable {X : Cx}
theorem readsAll_rowsK {pins : List (Addr × Obj)} {σ : St} {H : Hp} {s : Shared} (I : Inv X pins σ H s) : ∀ {ps : List Addr} {xs : List (List Int)} {us : List Value}, Rows5K X.K H ps xs → Vals (ps.map V.ref) us → ∃ as, ReadsAll s.heap us (xs.map fun ns => PyData.tuple (ns.map PyData.int)) as
  | [], [], us, .nil, r => by cases r; exact ⟨[], .nil⟩
  | p :: ps, ns :: xs, us, .cons e r, rv => by
    cases rv with
    | cons ru rr =>
      cases ru
      obtain ⟨as, ha⟩ := readsAll_rowsK I r rr
      obtain ⟨its, rv', ht, _⟩ := I.tuple e
      exact ⟨_, .cons (reads_tupI ht (intsAre_of rv')) ha⟩
theorem reads_boardK {pins : List (Addr × Obj)} {σ : St} {H : Hp} {s : Shared} (I : Inv X pins σ H s) {a : Addr} {ps : List Addr} {xs : List (List Int)} (h : H a = some (.lst (ps.map V.ref))) (r : Rows5K X.K H ps xs) : ∃ as, Reads s.heap (.ref a) (.list (xs.map fun ns => PyData.tuple (ns.map PyData.int))) as := by
  obtain ⟨its, rv, pl, _⟩ := I.list (SqL.of h)
  obtain ⟨as, ha⟩ := readsAll_rowsK I r rv
  obtain ⟨o, ho, hc, n, hd⟩ := pl.isList
  exact ⟨_, Reads.list ho hc hd (by simpa using ha)⟩
def rEqLTK (K : PySem.W.Frag) (neg : Bool) : R2 := fun x y H Q => ∃ (a b : Addr) (ps qs : List Addr) (xs ys : List (List Int)), x = .ref a ∧ y = .ref b ∧ H a = some (.lst (ps.map V.ref)) ∧ H b = some (.lst (qs.map V.ref)) ∧ Rows5K K H ps xs ∧ Rows5K K H qs ys ∧ Q (.bl (if neg then !decide (xs = ys) else decide (xs = ys))) H
theorem op_neLTK (hu : X.A.units + 64 < cLine) : OpR X (compareOp .NotEq) (rEqLTK X.K true) := by
  intro pins s σ H x y v u Q I rx ry h
  obtain ⟨a, b, ps, qs, xs, ys, rfl, rfl, h1, h2, r1, r2, q⟩ := h
  cases rx; cases ry
  obtain ⟨as, ra⟩ := reads_boardK I h1 r1
  obtain ⟨bs, rb⟩ := reads_boardK I h2 r2
  refine ne_dataH_same ra rb (shaped_rows xs) (shaped_rows ys) hu (by simp only [SeqAt.noMix]; exact noMix_rows xs ys) ⟨.bl (!decide (xs = ys)), H, I, ?_, q⟩
  show _ = _
  simp only [PySem.Spec.same]
  rw [same_rows]
end
end L2

set_option maxHeartbeats 4000000
/-! the greatest of a list -/
namespace L2
open PySem PySem.Spec PyProof.Rows
end L2

set_option maxHeartbeats 4000000
/-! the least and the greatest of a tuple, the least of a list, sorted(t) of a tuple, in, and != of moves -/
namespace L2
open PySem PySem.Spec PyProof.Rows
section
variable {prog : Program} {w : World} {A : Around} {E : Value → Shared → Prop} {s : Shared} {l : Addr}
end
section
variable {X : Cx}
end
end L2

set_option maxHeartbeats 4000000
namespace K55S
open PySem PySem.Spec PyProof.Rows L2 Ba M71
open K73 (top Bs)
/-! moves as the program writes them -/
def nm : Mv → Str
  | .flip _ => "flip"
  | .mix _ => "mix"
  | .turn _ _ => "turn"
  | .iff _ _ => "if"
  | .pair _ _ => "pair"
  | .swap _ _ => "swap"
  | .cross _ _ _ => "cross"
def ns : Mv → List Int
  | .flip a => [a]
  | .mix a => [a]
  | .turn a k => [a, k]
  | .iff a b => [a, b]
  | .pair a b => [a, b]
  | .swap a b => [a, b]
  | .cross a b d => [a, b, d]
def hd : Mv → Int
  | .flip a => a
  | .mix a => a
  | .turn a _ => a
  | .iff a _ => a
  | .pair a _ => a
  | .swap a _ => a
  | .cross a _ _ => a
def code : Mv → Nat
  | .flip _ => 0
  | .mix _ => 1
  | .turn _ _ => 2
  | .iff _ _ => 3
  | .pair _ _ => 4
  | .swap _ _ => 5
  | .cross _ _ _ => 6
def nms : List Str := ["flip", "mix", "turn", "if", "pair", "swap", "cross"]
theorem nm_code (m : Mv) : nm m = nms.getD (code m) "" := by cases m <;> rfl
theorem nms_inj : ∀ i, i < 7 → ∀ j, j < 7 → nms.getD i "" = nms.getD j "" → i = j := by decide +kernel
theorem code_lt (m : Mv) : code m < 7 := by cases m <;> simp [code]
theorem nm_is {x : Mv} {i : Nat} (hi : i < 7) : nm x = nms.getD i "" ↔ code x = i := ⟨fun h => nms_inj _ (code_lt x) _ hi (by rw [← nm_code, h]), fun h => by rw [nm_code, h]⟩
abbrev mm (m : Mv) : Mm := (nm m, ns m)
theorem ok7 : ∀ i, i < 7 → PyData.strOk (nms.getD i "") = true := by decide +kernel
theorem okS (m : Mv) : PyData.strOk (mm m).1 = true := by
  show PyData.strOk (nm m) = true
  rw [nm_code]
  exact ok7 _ (code_lt m)
theorem ns_cons (m : Mv) : ∃ r, ns m = hd m :: r := by cases m <;> exact ⟨_, rfl⟩
theorem at0m (m : Mv) : atI (.str (nm m) :: (ns m).map V.int) 0 = some (.str (nm m)) := L2.atI_nat (show (V.str (nm m) :: (ns m).map V.int)[0]? = some _ from rfl)
theorem at1m (m : Mv) : atI (.str (nm m) :: (ns m).map V.int) 1 = some (.int (hd m)) := by
  obtain ⟨r, e⟩ := ns_cons m
  rw [e]
  exact L2.atI_nat (show (V.str (nm m) :: V.int (hd m) :: r.map V.int)[1]? = some _ from rfl)
theorem is_turn (m : Mv) : nm m = "turn" ↔ code m = 2 := nm_is (i := 2) (by decide)
theorem is_cross (m : Mv) : nm m = "cross" ↔ code m = 6 := nm_is (i := 6) (by decide)
theorem cells_cons (m : Mv) : ∃ r, m.cells = hd m :: r := by cases m <;> exact ⟨_, rfl⟩
theorem fresh_of {H H' : Hp} {l : Addr} (s : Same H H') (h : H' l = none) : H l = none := by
  cases e : H l with
  | none => rfl
  | some o => rw [s _ _ e] at h; cases h
def RowAt (H : Hp) (l : Addr) (row : List Mv) : Prop := ∃ ps, H l = some (.lst (ps.map V.ref)) ∧ RowsM H ps (row.map mm)
theorem RowAt.same {H H' : Hp} {l : Addr} {row : List Mv} (h : RowAt H l row) (s : Same H H') : RowAt H' l row := by
  obtain ⟨ps, a, b⟩ := h
  exact ⟨ps, s _ _ a, b.same s⟩
end K55S

set_option maxHeartbeats 4000000
namespace K55S
open PySem PySem.Spec PyProof.Rows L2 Ba Am M71
open K73 (top Bs va vb vc vd Gm Step Steps Ams Mix MixAt)
open M72 (V4 sm add root E En fl sw sg rowop op VOk)
/-! a row's boards, as one operator says them -/
def Vl (m : Nat) (v : V4) (x : A5) : Prop := ∃ M0 : Int, ∀ M, M0 ≤ M → va x M = v.1 * p2 (M - m) ∧ vb x M = v.2.1 * p2 (M - m) ∧ vc x M = v.2.2.1 * p2 (M - m) ∧ vd x M = v.2.2.2 * p2 (M - m)
theorem Vl.once {m : Nat} {v x : V4} {h : Int} (l : Vl m v (x, h)) : Vl m (E v) (E x, h) := by
  obtain ⟨M0, l⟩ := l
  refine ⟨M0, fun M hM => ?_⟩
  obtain ⟨l1, l2, l3, l4⟩ := l M hM
  unfold va at l1
  unfold vb at l2
  unfold vc at l3
  unfold vd at l4
  unfold va vb vc vd
  simp only [E] at l1 l2 l3 l4 ⊢
  rw [Int.neg_mul, Int.neg_mul, l4]
  exact ⟨rfl, l1, l2, l3⟩
theorem Vl.rot {m : Nat} {v x : V4} {h : Int} (l : Vl m v (x, h)) : ∀ j, Vl m (En j v) (Ba.rot j x, h)
  | 0 => l
  | j + 1 => (Vl.rot l j).once
theorem Vl.up {m : Nat} {v : V4} {x : A5} (l : Vl m v x) (n : Nat) : Vl (m + n) (sm (2 ^ n) v) x := by
  obtain ⟨M0, l⟩ := l
  refine ⟨max M0 0 + m + n, fun M hM => ?_⟩
  obtain ⟨l1, l2, l3, l4⟩ := l M (by omega)
  have e : p2 (M - m) = 2 ^ n * p2 (M - ((m + n : Nat) : Int)) := by
    rw [p2_sub (a := M - m) (b := (n : Int)) (by omega) (by omega), Int.mul_comm]
    congr 1
    unfold p2
    congr 1
    omega
  rw [l1, l2, l3, l4, e]
  simp only [sm]
  refine ⟨?_, ?_, ?_, ?_⟩ <;> grind
theorem Vl.mix {m : Nat} {s : Int} {v u : V4} {x y z : A5} (l : Vl m v x) (l' : Vl m u y) (mx : Mix s x y z) (x0 : 0 ≤ x.2) (y0 : 0 ≤ y.2) : Vl (m + 1) (root (add v (sm s u))) z := by
  obtain ⟨M1, l⟩ := l
  obtain ⟨M2, l'⟩ := l'
  obtain ⟨M3, h3⟩ := mx.vals x0 y0
  refine ⟨max M1 0 + max M2 0 + max M3 0 + 1, fun N hN => ?_⟩
  obtain ⟨M, rfl⟩ : ∃ M, N = M + 1 := ⟨N - 1, by omega⟩
  obtain ⟨a1, a2, a3, a4⟩ := l M (by omega)
  obtain ⟨b1, b2, b3, b4⟩ := l' M (by omega)
  obtain ⟨c1, c2, c3, c4⟩ := h3 M (by omega)
  have e : M + 1 - ((m + 1 : Nat) : Int) = M - m := by omega
  rw [c1, c2, c3, c4, a1, a2, a3, a4, b1, b2, b3, b4, e]
  simp only [root, add, sm]
  refine ⟨?_, ?_, ?_, ?_⟩ <;> grind
theorem Vl.same {m : Nat} {v : V4} {x y : A5} (l : Vl m v x) (l' : Vl m v y) (ax : Amt x.1.1 x.1.2.1 x.1.2.2.1 x.1.2.2.2 x.2) (ay : Amt y.1.1 y.1.2.1 y.1.2.2.1 y.1.2.2.2 y.2) : x = y := by
  obtain ⟨M1, l⟩ := l
  obtain ⟨M2, l'⟩ := l'
  have x0 := ax.nn
  have y0 := ay.nn
  obtain ⟨M, g1, g2, g3, g4⟩ : ∃ M : Int, M1 ≤ M ∧ M2 ≤ M ∧ x.2 ≤ M ∧ y.2 ≤ M := ⟨max M1 0 + max M2 0 + x.2 + y.2, by omega, by omega, by omega, by omega⟩
  obtain ⟨a1, a2, a3, a4⟩ := l M g1
  obtain ⟨b1, b2, b3, b4⟩ := l' M g2
  exact K73.val_same ax ay g3 g4 (by rw [a1, b1]) (by rw [a2, b2]) (by rw [a3, b3]) (by rw [a4, b4])
theorem Vl.of {x : A5} {N : Nat} (h0 : 0 ≤ x.2) (h : x.2 ≤ (N : Int)) : Vl N (sm (2 ^ (N - x.2.toNat)) x.1) x := by
  have b : Vl x.2.toNat x.1 x := by
    refine ⟨0, fun M _ => ?_⟩
    have : ((x.2.toNat : Nat) : Int) = x.2 := Int.toNat_of_nonneg h0
    rw [this]
    exact ⟨rfl, rfl, rfl, rfl⟩
  have := b.up (N - x.2.toNat)
  rw [show x.2.toNat + (N - x.2.toNat) = N by omega] at this
  exact this
def e1 (a w : Nat) : Bool := (decide (w &&& 2 ^ a = 0) == !w.testBit a) && (decide (w &&& 2 ^ a = 2 ^ a) == w.testBit a) && (decide (w / 2 ^ a % 2 = 0) == !w.testBit a) && (w.testBit a || decide (fl w a = w + 2 ^ a)) && (!w.testBit a || decide (fl w a = w - 2 ^ a))
def e2 (a b w : Nat) : Bool := decide (a = b) || (decide (K73.exch w a b = sw w a b) && (decide (w &&& (2 ^ a ||| 2 ^ b) = (2 ^ a ||| 2 ^ b)) == (w.testBit a && w.testBit b)))
theorem e1_all : ((List.range 6).all fun a => (List.range 64).all fun w => e1 a w) = true := by decide +kernel
theorem e2_all : ((List.range 6).all fun a => (List.range 6).all fun b => (List.range 64).all fun w => e2 a b w) = true := by decide +kernel
theorem w64 {c w : Nat} (hc : c ≤ 6) (hw : w < 2 ^ c) : w < 64 := Nat.lt_of_lt_of_le hw (Nat.pow_le_pow_right (by decide) hc : 2 ^ c ≤ 2 ^ 6)
theorem e1_at {c a w : Nat} (hc : c ≤ 6) (ha : a < c) (hw : w < 2 ^ c) : (w &&& 2 ^ a = 0 ↔ w.testBit a = false) ∧ (w &&& 2 ^ a = 2 ^ a ↔ w.testBit a = true) ∧ (w / 2 ^ a % 2 = 0 ↔ w.testBit a = false) ∧ (w.testBit a = false → fl w a = w + 2 ^ a) ∧ (w.testBit a = true → fl w a = w - 2 ^ a) := by
  have h := K73.get1 (K73.get1 e1_all (show a < 6 by omega)) (w64 hc hw)
  unfold e1 at h
  simp only [Bool.and_eq_true, Bool.or_eq_true, beq_iff_eq, decide_eq_true_eq] at h
  obtain ⟨⟨⟨⟨h1, h2⟩, h3⟩, h4⟩, h5⟩ := h
  cases hb : w.testBit a
  · rw [hb] at h1 h2 h3 h4 h5
    simp at h1 h2 h3 h4 h5
    exact ⟨⟨fun _ => rfl, fun _ => h1⟩, ⟨fun z => absurd z h2, fun z => by cases z⟩, ⟨fun _ => rfl, fun _ => h3⟩, fun _ => h4, fun z => by cases z⟩
  · rw [hb] at h1 h2 h3 h4 h5
    simp at h1 h2 h3 h4 h5
    exact ⟨⟨fun z => absurd z h1, fun z => by cases z⟩, ⟨fun _ => rfl, fun _ => h2⟩, ⟨fun z => absurd z (by omega), fun z => by cases z⟩, (fun z => by cases z), fun _ => h5⟩
theorem e2_at {c a b w : Nat} (hc : c ≤ 6) (ha : a < c) (hb : b < c) (n : a ≠ b) (hw : w < 2 ^ c) : K73.exch w a b = sw w a b ∧ (w &&& (2 ^ a ||| 2 ^ b) = (2 ^ a ||| 2 ^ b) ↔ (w.testBit a && w.testBit b) = true) := by
  have h := K73.get1 (K73.get1 (K73.get1 e2_all (show a < 6 by omega)) (show b < 6 by omega)) (w64 hc hw)
  unfold e2 at h
  simp only [Bool.and_eq_true, Bool.or_eq_true, beq_iff_eq, decide_eq_true_eq] at h
  rcases h with h | ⟨h1, h2⟩
  · exact absurd h n
  · refine ⟨h1, ?_⟩
    rw [← h2]
    simp
def gm : Mv → Gm
  | .flip a => .mv (.flip a.toNat)
  | .mix a => .mix a.toNat
  | .turn a k => .mv (.turn a.toNat k.toNat)
  | .iff a b => .mv (.iff a.toNat b.toNat)
  | .pair a b => .mv (.pair a.toNat b.toNat)
  | .swap a b => .mv (.swap a.toNat b.toNat)
  | .cross a b d => .mv (.cross a.toNat b.toNat d.toNat)
theorem tn {a : Int} (h : 0 ≤ a) : ((a.toNat : Nat) : Int) = a := Int.toNat_of_nonneg h
theorem gm_mm {c : Nat} {m : Mv} (o : VOk c m) : (gm m).mm = mm m := by
  obtain ⟨o, _⟩ := o
  cases m with
  | flip a => show (_, [((a.toNat : Nat) : Int)]) = _; rw [tn o]; rfl
  | mix a => show (_, [((a.toNat : Nat) : Int)]) = _; rw [tn o]; rfl
  | turn a k => show (_, [((a.toNat : Nat) : Int), ((k.toNat : Nat) : Int)]) = _; rw [tn o.1, tn (show 0 ≤ k by have := o.2.1; omega)]; rfl
  | iff a b => show (_, [((a.toNat : Nat) : Int), ((b.toNat : Nat) : Int)]) = _; rw [tn o.1, tn o.2.1]; rfl
  | pair a b => show (_, [((a.toNat : Nat) : Int), ((b.toNat : Nat) : Int)]) = _; rw [tn o.1, tn o.2.1]; rfl
  | swap a b => show (_, [((a.toNat : Nat) : Int), ((b.toNat : Nat) : Int)]) = _; rw [tn o.1, tn o.2.1]; rfl
  | cross a b d => show (_, [((a.toNat : Nat) : Int), ((b.toNat : Nat) : Int), ((d.toNat : Nat) : Int)]) = _; rw [tn o.1, tn o.2.1, tn o.2.2.1]; rfl
theorem gm_ok {c : Nat} {m : Mv} (o : VOk c m) : (gm m).Ok c := by
  obtain ⟨o, x⟩ := o
  cases m with
  | flip a => have h := x a (by simp [Mv.cells]); have o : 0 ≤ a := o; show a.toNat < c; omega
  | mix a => have h := x a (by simp [Mv.cells]); have o : 0 ≤ a := o; show a.toNat < c; omega
  | turn a k => have h := x a (by simp [Mv.cells]); have o : 0 ≤ a ∧ 1 ≤ k ∧ k ≤ 7 := o; show a.toNat < c ∧ 1 ≤ k.toNat ∧ k.toNat ≤ 7; omega
  | iff a b => have h := x a (by simp [Mv.cells]); have h2 := x b (by simp [Mv.cells]); have o : 0 ≤ a ∧ 0 ≤ b ∧ a ≠ b := o; show a.toNat < c ∧ b.toNat < c ∧ a.toNat ≠ b.toNat; omega
  | pair a b => have h := x a (by simp [Mv.cells]); have h2 := x b (by simp [Mv.cells]); have o : 0 ≤ a ∧ 0 ≤ b ∧ a ≠ b := o; show a.toNat < c ∧ b.toNat < c ∧ a.toNat ≠ b.toNat; omega
  | swap a b => have h := x a (by simp [Mv.cells]); have h2 := x b (by simp [Mv.cells]); have o : 0 ≤ a ∧ 0 ≤ b ∧ a ≠ b := o; show a.toNat < c ∧ b.toNat < c ∧ a.toNat ≠ b.toNat; omega
  | cross a b d => have h := x a (by simp [Mv.cells]); have h2 := x b (by simp [Mv.cells]); have h3 := x d (by simp [Mv.cells]); have o : 0 ≤ a ∧ 0 ≤ b ∧ 0 ≤ d ∧ a ≠ b ∧ a ≠ d ∧ b ≠ d := o; show a.toNat < c ∧ b.toNat < c ∧ d.toNat < c ∧ a.toNat ≠ b.toNat ∧ a.toNat ≠ d.toNat ∧ b.toNat ≠ d.toNat; omega
theorem vl_mv {c n w k : Nat} {F : M72.Bv} {f : Nat → A5} {z : A5} {v : K73.Mv} {t : Nat} (hl : v.to w < 2 ^ c) (h : ∀ w, w < 2 ^ c → Vl n (F w) (f w)) (et : v.to w = t) (es : v.sp w = k) (k8 : k < 8) (e : z = spin (f (v.to w)) (v.sp w : Nat)) : Vl (n + 1) (sm 2 (En k (F t))) z := by
  subst et es
  rw [e]
  have q := (h _ hl).rot (v.sp w)
  have e2 : (((v.sp w : Nat) : Int) % 8).toNat = v.sp w := by omega
  unfold spin
  rw [e2]
  exact q.up 1
theorem step_vl {c n : Nat} {m : Mv} {F : M72.Bv} {f f' : Nat → A5} (hc : c ≤ 6) (o : VOk c m) (af : Ams c f) (h : ∀ w, w < 2 ^ c → Vl n (F w) (f w)) (s : Step c (gm m) f f') : ∀ w, w < 2 ^ c → Vl (n + 1) (op m F w) (f' w) := by
  intro w hw
  have ok := gm_ok o
  cases m with
  | flip a => exact vl_mv (v := .flip a.toNat) (K73.Mv.to_lt hc ok hw) h rfl rfl (show 0 < 8 by decide) (s w hw)
  | turn a j =>
    have ok : a.toNat < c ∧ 1 ≤ j.toNat ∧ j.toNat ≤ 7 := ok
    refine vl_mv (v := .turn a.toNat j.toNat) hw h rfl ?_ ?_ (s w hw)
    · show (if _ then _ else _) = (if _ then _ else _)
      by_cases b : w.testBit a.toNat = true
      · rw [if_pos b, if_pos ((e1_at hc ok.1 hw).2.1.mpr b)]
      · rw [if_neg b, if_neg (fun z => b ((e1_at hc ok.1 hw).2.1.mp z))]
    · show (if w.testBit a.toNat then j.toNat else 0) < 8
      split <;> omega
  | iff a b =>
    have ok' : a.toNat < c ∧ b.toNat < c ∧ a.toNat ≠ b.toNat := ok
    refine vl_mv (v := .iff a.toNat b.toNat) (K73.Mv.to_lt hc ok hw) h ?_ rfl (show 0 < 8 by decide) (s w hw)
    show (if _ then _ else _) = (if _ then _ else _)
    by_cases b : w.testBit a.toNat = true
    · rw [if_pos b, if_neg (fun z => by rw [(e1_at hc ok'.1 hw).1.mp z] at b; cases b)]
      rfl
    · rw [if_neg b, if_pos ((e1_at hc ok'.1 hw).1.mpr (by simpa using b))]
  | pair a b =>
    have ok' : a.toNat < c ∧ b.toNat < c ∧ a.toNat ≠ b.toNat := ok
    refine vl_mv (v := .pair a.toNat b.toNat) hw h rfl ?_ ?_ (s w hw)
    · show (if _ then _ else _) = (if _ then _ else _)
      by_cases b' : (w.testBit a.toNat && w.testBit b.toNat) = true
      · rw [if_pos b', if_pos ((e2_at hc ok'.1 ok'.2.1 ok'.2.2 hw).2.mpr b')]
      · rw [if_neg b', if_neg (fun z => b' ((e2_at hc ok'.1 ok'.2.1 ok'.2.2 hw).2.mp z))]
    · show (if _ then _ else _) < 8
      split <;> omega
  | swap a b =>
    have ok' : a.toNat < c ∧ b.toNat < c ∧ a.toNat ≠ b.toNat := ok
    exact vl_mv (v := .swap a.toNat b.toNat) (K73.Mv.to_lt hc ok hw) h (e2_at hc ok'.1 ok'.2.1 ok'.2.2 hw).1 rfl (show 0 < 8 by decide) (s w hw)
  | cross a b d =>
    have ok' : a.toNat < c ∧ b.toNat < c ∧ d.toNat < c ∧ a.toNat ≠ b.toNat ∧ a.toNat ≠ d.toNat ∧ b.toNat ≠ d.toNat := ok
    refine vl_mv (v := .cross a.toNat b.toNat d.toNat) (K73.Mv.to_lt hc ok hw) h ?_ rfl (show 0 < 8 by decide) (s w hw)
    show (if _ then _ else _) = (if _ then _ else _)
    by_cases b : w.testBit a.toNat = true
    · rw [if_pos b, if_neg (fun z => by rw [(e1_at hc ok'.1 hw).1.mp z] at b; cases b)]
      exact (e2_at hc ok'.2.1 ok'.2.2.1 ok'.2.2.2.2.2 hw).1
    · rw [if_neg b, if_pos ((e1_at hc ok'.1 hw).1.mpr (by simpa using b))]
  | mix a =>
    have ac : a.toNat < c := ok
    have e := s w hw
    have e : MixAt f a.toNat w (f' w) := e
    unfold MixAt at e
    obtain ⟨_, _, h3, h4, h5⟩ := e1_at hc ac hw
    show Vl (n + 1) (root (add (sm (sg w a.toNat) (F w)) (F (fl w a.toNat)))) (f' w)
    unfold sg
    by_cases hb : w.testBit a.toNat = false
    · have z := h3.mpr hb
      obtain ⟨_, _, l2, _⟩ := K73.w_low hc ac hw z
      rw [if_pos z] at e
      rw [if_neg (by rw [hb]; decide), h4 hb, M72.sm_one]
      have := (h _ hw).mix (h _ l2) e (af _ hw).nn (af _ l2).nn
      rw [M72.sm_one] at this
      exact this
    · have hb' : w.testBit a.toNat = true := by simpa using hb
      have z : ¬ w / 2 ^ a.toNat % 2 = 0 := fun z => hb (h3.mp z)
      have l2 : w - 2 ^ a.toNat < 2 ^ c := Nat.lt_of_le_of_lt (Nat.sub_le _ _) hw
      rw [if_neg z] at e
      rw [if_pos hb', h5 hb', M72.add_comm]
      exact (h _ l2).mix (h _ hw) e (af _ l2).nn (af _ hw).nn
theorem steps_vl {c : Nat} (hc : c ≤ 6) : ∀ {row : List Mv} {n : Nat} {F : M72.Bv} {f f' : Nat → A5}, (∀ m ∈ row, VOk c m) → Ams c f → (∀ w, w < 2 ^ c → Vl n (F w) (f w)) → Steps c (row.map gm) f f' → (∀ w, w < 2 ^ c → Vl (n + row.length) (rowop row F w) (f' w)) ∧ Ams c f'
  | [], n, F, f, f', _, af, h, a => by
    cases a
    exact ⟨h, af⟩
  | m :: row, n, F, f, f', ok, af, h, a => by
    cases a with
    | cons a a' =>
      have okm := ok m (.head _)
      have := steps_vl hc (row := row) (fun x hx => ok x (.tail _ hx)) (a.ams hc (gm_ok okm) af) (step_vl hc okm af h a) a'
      rw [List.length_cons, show n + (row.length + 1) = n + 1 + row.length by omega]
      exact this
theorem row_rw {c : Nat} {H : Hp} {l : Addr} {row : List Mv} (h : RowAt H l row) (ok : ∀ m ∈ row, VOk c m) (len : row.length ≤ 200) : ∃ ps, K73.Rw H l ps (row.map gm) c := by
  obtain ⟨ps, hl, hr⟩ := h
  refine ⟨ps, hl, ?_, ?_, by rw [List.length_map]; exact len⟩
  · show RowsM H ps ((row.map gm).map Gm.mm)
    have e : (row.map gm).map Gm.mm = row.map mm := by
      rw [List.map_map]
      exact List.map_congr_left fun m hm => gm_mm (ok m hm)
    rw [e]
    exact hr
  · intro m hm
    obtain ⟨x, hx, rfl⟩ := List.mem_map.mp hm
    exact gm_ok (ok x hx)
end K55S

set_option maxHeartbeats 4000000
namespace K55S
open PySem PySem.Spec PyProof.Rows L2 Ba Am Pc M71
open K73 (top Bs)
open M72 (fl sw VOk)
open M75 (Mk mvd Br)
abbrev mkL (m : Mk) : List V := [.int (m.1 : Nat), .int (m.2.1 : Nat), .int (m.2.2 : Nat)]
structure OkK (c : Nat) (m : Mk) : Prop where
  k : m.1 < 4
  f : m.2.1 < 2 ^ c
  s : m.2.2 < 2 ^ c
theorem and_two (f a : Nat) : (f &&& 2 ^ a) = if f.testBit a then 2 ^ a else 0 := by
  apply Nat.eq_of_testBit_eq
  intro j
  rw [Nat.testBit_and, Nat.testBit_two_pow]
  by_cases h : a = j
  · subst h
    cases hb : f.testBit a <;> simp
  · cases hb : f.testBit a <;> simp [h, Nat.testBit_two_pow]
theorem tb (f a : Nat) : (Builtin.bitAnd (f : Int) ((2 ^ a : Nat) : Int) != 0) = f.testBit a := by
  rw [and_i, and_two]
  cases f.testBit a
  · rfl
  · have h0 := Nat.two_pow_pos a
    have : ((2 ^ a : Nat) : Int) ≠ 0 := by omega
    exact bne_iff_ne.mpr this
theorem xb (f a : Nat) : Builtin.bitXor (f : Int) ((2 ^ a : Nat) : Int) = ((fl f a : Nat) : Int) := xor_i f (2 ^ a)
abbrev mxF (a f s : Nat) : Nat := if f.testBit a = s.testBit a then f else fl f a
abbrev mxS (a f s : Nat) : Nat := if f.testBit a = s.testBit a then s else fl s a
abbrev mxI (f s b : Int) : Int := Builtin.bitOr (Builtin.bitAnd f (Builtin.bitNot b)) (Builtin.bitAnd s b)
def mxOk (a f s : Nat) : Bool :=
  decide (mxI f s ((2 ^ a : Nat) : Int) = (mxF a f s : Int)) && decide (mxI s f ((2 ^ a : Nat) : Int) = (mxS a f s : Int)) &&
  decide (((mxF a f s).testBit a && (mxS a f s).testBit a) = (f.testBit a && s.testBit a))
theorem mx_all : ((List.range 6).all fun a => (List.range 64).all fun f => (List.range 64).all fun s => mxOk a f s) = true := by decide +kernel
theorem mx_at {c a f s : Nat} (hc : c ≤ 6) (ha : a < c) (hf : f < 2 ^ c) (hs : s < 2 ^ c) : mxI f s ((2 ^ a : Nat) : Int) = (mxF a f s : Int) ∧ mxI s f ((2 ^ a : Nat) : Int) = (mxS a f s : Int) ∧ ((mxF a f s).testBit a && (mxS a f s).testBit a) = (f.testBit a && s.testBit a) := by
  have h := K73.get1 (K73.get1 (K73.get1 mx_all (show a < 6 by omega)) (w64 hc hf)) (w64 hc hs)
  unfold mxOk at h
  rw [Bool.and_eq_true, Bool.and_eq_true] at h
  exact ⟨of_decide_eq_true h.1.1, of_decide_eq_true h.1.2, of_decide_eq_true h.2⟩
theorem tb2 (f s a : Nat) : (Builtin.bitAnd (Builtin.bitAnd (f : Int) (s : Int)) ((2 ^ a : Nat) : Int) != 0) = (f.testBit a && s.testBit a) := by
  rw [and_i, tb, Nat.testBit_and]
theorem fl_lt {c f a : Nat} (hf : f < 2 ^ c) (ha : a < c) : fl f a < 2 ^ c := Nat.xor_lt_two_pow hf (Nat.pow_lt_pow_right (by decide) ha)
theorem sw_lt {c f a b : Nat} (hf : f < 2 ^ c) (ha : a < c) (hb : b < c) : sw f a b < 2 ^ c := by
  unfold sw
  split
  · exact hf
  · exact fl_lt (fl_lt hf ha) hb
theorem mvd_ok {c : Nat} {x : Mv} {m : Mk} (o : VOk c x) (h : OkK c m) : OkK c (mvd x m) := by
  obtain ⟨k, f, s⟩ := m
  obtain ⟨hk, hf, hs⟩ := h
  have ok := gm_ok o
  have k4 : ∀ n : Nat, n % 4 < 4 := fun n => Nat.mod_lt _ (by decide)
  cases x with
  | flip a => exact ⟨by show (if _ then _ else _) < 4; split; exact k4 _; exact hk, hf, hs⟩
  | mix a =>
    have ac : a.toNat < c := ok
    exact ⟨by show (if _ then _ else _) < 4; split; exact k4 _; exact hk, by show (if _ then _ else _) < 2 ^ c; split; exact hf; exact fl_lt hf ac, by show (if _ then _ else _) < 2 ^ c; split; exact hs; exact fl_lt hs ac⟩
  | turn a j =>
    have ac : a.toNat < c ∧ _ := ok
    show OkK c (if _ then _ else _)
    split
    · exact ⟨k4 _, hf, by show (if _ then _ else _) < 2 ^ c; split; exact fl_lt hs ac.1; exact hs⟩
    · exact ⟨hk, hf, hs⟩
  | iff a b =>
    have ac : a.toNat < c ∧ b.toNat < c ∧ _ := ok
    exact ⟨hk, by show (if _ then _ else _) < 2 ^ c; split; exact fl_lt hf ac.2.1; exact hf, by show (if _ then _ else _) < 2 ^ c; split; exact fl_lt hs ac.1; exact hs⟩
  | pair a b =>
    have ac : a.toNat < c ∧ b.toNat < c ∧ _ := ok
    refine ⟨by show (if _ then _ else _) < 4; split; exact k4 _; exact hk, hf, ?_⟩
    show (if _ then _ else _) < 2 ^ c
    split
    · refine fl_lt ?_ ac.1
      split
      · exact fl_lt hs ac.2.1
      · exact hs
    · split
      · exact fl_lt hs ac.2.1
      · exact hs
  | swap a b =>
    have ac : a.toNat < c ∧ b.toNat < c ∧ _ := ok
    exact ⟨hk, sw_lt hf ac.1 ac.2.1, sw_lt hs ac.1 ac.2.1⟩
  | cross a b d => exact ⟨hk, hf, hs⟩
abbrev Mkr (K : PySem.W.Frag) (H : Hp) (Q : VK) (m : Mk) : Prop := ∀ (r : Addr) (H' : Hp), Same H H' → SqT K H' r (mkL m) → Q (.ref r) H'
def spAbout (K : PySem.W.Frag) : Sp := fun vs H Q _ => ∃ (p : Addr) (m : Mk), vs = [.ref p] ∧ SqT K H p (mkL m) ∧ Mkr K H Q ((m.1 + 2) % 4, m.2.1, m.2.2)
def spByMix (K : PySem.W.Frag) : Sp := fun vs H Q _ => ∃ (p : Addr) (m : Mk) (c a : Nat), vs = [.ref p, .int ((2 ^ a : Nat) : Int)] ∧ SqT K H p (mkL m) ∧ OkK c m ∧ c ≤ 6 ∧ a < c ∧ Mkr K H Q (mvd (.mix (a : Int)) m)
def spByTurn (K : PySem.W.Frag) : Sp := fun vs H Q _ => ∃ (p : Addr) (m : Mk) (a j : Nat), vs = [.ref p, .int ((2 ^ a : Nat) : Int), .int (j : Int)] ∧ SqT K H p (mkL m) ∧ Mkr K H Q (mvd (.turn (a : Int) (j : Int)) m)
def spByIf (K : PySem.W.Frag) : Sp := fun vs H Q _ => ∃ (p : Addr) (m : Mk) (a b : Nat), vs = [.ref p, .int ((2 ^ a : Nat) : Int), .int ((2 ^ b : Nat) : Int)] ∧ SqT K H p (mkL m) ∧ Mkr K H Q (mvd (.iff (a : Int) (b : Int)) m)
def spByPair (K : PySem.W.Frag) : Sp := fun vs H Q _ => ∃ (p : Addr) (m : Mk) (a b : Nat), vs = [.ref p, .int ((2 ^ a : Nat) : Int), .int ((2 ^ b : Nat) : Int)] ∧ SqT K H p (mkL m) ∧ Mkr K H Q (mvd (.pair (a : Int) (b : Int)) m)
theorem k0 {x y z : V} : atI [x, y, z] 0 = some x := rfl
theorem k1 {x y z : V} : atI [x, y, z] 1 = some y := rfl
theorem k2 {x y z : V} : atI [x, y, z] 2 = some z := rfl
theorem mvd_mix (a k f s : Nat) : mvd (.mix (a : Int)) (k, f, s) = (if f.testBit a && s.testBit a then (k + 2) % 4 else k, mxF a f s, mxS a f s) := rfl
theorem mvd_turn (a j k f s : Nat) : mvd (.turn (a : Int) (j : Int)) (k, f, s) = if f.testBit a then ((k + j / 2) % 4, f, if j % 4 = 2 then fl s a else s) else (k, f, s) := rfl
theorem mvd_iff (a b k f s : Nat) : mvd (.iff (a : Int) (b : Int)) (k, f, s) = (k, if f.testBit a then fl f b else f, if s.testBit b then fl s a else s) := rfl
abbrev prS (a b f s : Nat) : Nat := if f.testBit b then fl (if f.testBit a then fl s b else s) a else if f.testBit a then fl s b else s
theorem mvd_pair (a b k f s : Nat) : mvd (.pair (a : Int) (b : Int)) (k, f, s) = (if f.testBit a && f.testBit b then (k + 2) % 4 else k, f, prS a b f s) := rfl
section
variable {P : Program} {w : World} {K : PySem.W.Frag} {mg : Str → Option Value} {base : Heap} {k : Nat} {h : Heap}
theorem sc_about : FnScope ["mark"] ["mark"] (defScope (top 10)) := ⟨rfl, rfl, rfl, by decide +kernel, rfl, by decide +kernel, by decide +kernel⟩
theorem ok_about (F : FunAt K "turned_about" (top 10) .none) (X : K.In h) (G : h.Ns mainGlobals mg) : Cal P w K mg base (k + 1) "turned_about" ["mark"] (spAbout K) := by
  have nd := sc_about.nd
  refine F.cal X G sc_about (bnd1 fun _ _ _ _ _ _ _ => rfl) (fun vs H Q E h => ?_) (fun f cdv A outer s H vs Q E hr h => ?_)
  · obtain ⟨p, m, rfl, _⟩ := h; rfl
  obtain ⟨p, ⟨k, f, s⟩, rfl, S, q⟩ := h
  refine ⟨_, (@pss_one _ _ _ (ps_ret (@pe_tup _ _ _ _ _ (pa_cons (pe_op op_mod (pe_op op_add (pe_ix ix_tup (pv 0) pe_int (fun _ _ => rfl)) pe_int) pe_int) (pa_cons (pe_ix ix_tup (pv 0) pe_int (fun _ _ => rfl)) (pa_cons (pe_ix ix_tup (pv 0) pe_int (fun _ _ => rfl)) pa_nil)))))), ?_⟩
  try dsimp only [cxK]
  refine ⟨_, rfl, p, _, _, .int k, rfl, rfl, S, k0, _, _, rfl, rfl, _, _, rfl, rfl, (by show (0 : Int) < _; decide), _, rfl, p, _, _, .int f, rfl, rfl, S, k1, _, rfl, p, _, _, .int s, rfl, rfl, S, k2, t3, fun r hr => q r _ (same_new hr _) (SqT.of ?_)⟩
  rw [upd_same]
  have e : ((k : Int) + 2) % 4 = (((k + 2) % 4 : Nat) : Int) := by omega
  show some (HO.tup [.int (((k : Int) + 2) % 4), .int f, .int s]) = _
  rw [e]
theorem sc_bymix : FnScope ["mark", "bit", "flips", "signs", "moved"] ["mark", "bit"] (defScope (top 41)) := ⟨rfl, rfl, rfl, by decide +kernel, rfl, by decide +kernel, by decide +kernel⟩
theorem ok_bymix (F : FunAt K "moved_by_mix" (top 41) .none) (X : K.In h) (G : h.Ns mainGlobals mg) (c_turned_about : Cal P w K mg base k "turned_about" ["mark"] (spAbout K)) : Cal P w K mg base (k + 1) "moved_by_mix" ["mark", "bit"] (spByMix K) := by
  have nd := sc_bymix.nd
  refine F.cal X G sc_bymix (bnd2 fun _ _ _ _ _ _ _ _ => rfl) (fun vs H Q E h => ?_) (fun f cdv A outer s H vs Q E hr h => ?_)
  · obtain ⟨p, m, c, a, rfl, _⟩ := h; rfl
  obtain ⟨p, ⟨k, f, s⟩, c, a, rfl, S, o, c6, ac, q⟩ := h
  obtain ⟨e1, e2, e3⟩ := mx_at (f := f) (s := s) c6 ac o.f o.s
  refine ⟨_, (@pss_cut _ _ _ _ _ (@ps_set _ _ 2 _ _ _ _ nd rfl (Or.inl rfl) (pe_op op_or (pe_op op_and (pe_ix ix_tup (pv 0) pe_int (fun _ _ => rfl)) (pe_un un_inv (pv 1))) (pe_op op_and (pe_ix ix_tup (pv 0) pe_int (fun _ _ => rfl)) (pv 1))) rfl (.inl rfl))
    (@pss_cut _ _ _ _ _ (@ps_set _ _ 3 _ _ _ _ nd rfl (Or.inl rfl) (pe_op op_or (pe_op op_and (pe_ix ix_tup (pv 0) pe_int (fun _ _ => rfl)) (pe_un un_inv (pv 1))) (pe_op op_and (pe_ix ix_tup (pv 0) pe_int (fun _ _ => rfl)) (pv 1))) rfl (.inl rfl))
    (@pss_cons _ _ _ _ _ (@ps_set _ _ 4 _ _ _ _ nd rfl (Or.inl rfl) (@pe_tup _ _ _ _ _ (pa_cons (pe_ix ix_tup (pv 0) pe_int (fun _ _ => rfl)) (pa_cons (pv 2) (pa_cons (pv 3) pa_nil)))) rfl (.inl rfl))
    (@pss_one _ _ _ (ps_ret (pe_ifExp (pt_truI (pe_op op_and (pe_op op_and (pv 2) (pv 3)) (pv 1)) (by intro _; rfl)) (pe_cal c_turned_about hr rfl (pa_cons (pv 4) pa_nil)) (pv 4))))))), ?_⟩
  try dsimp only [cxK]
  refine ⟨fun σ' H' => H = H' ∧ σ' = [some (.ref p), some (.int ((2 ^ a : Nat) : Int)), some (.int (mxF a f s : Nat)), none, none], ?_, ?_⟩
  · exact ⟨_, rfl, p, _, _, .int f, rfl, rfl, S, k1, _, rfl, _, rfl, _, _, rfl, rfl, _, rfl, p, _, _, .int s, rfl, rfl, S, k2, _, rfl, _, _, rfl, rfl, _, _, rfl, rfl, rfl, by rw [← e1]; rfl⟩
  rintro σ' _ ⟨rfl, rfl⟩
  refine ⟨fun σ' H' => H = H' ∧ σ' = [some (.ref p), some (.int ((2 ^ a : Nat) : Int)), some (.int (mxF a f s : Nat)), some (.int (mxS a f s : Nat)), none], ?_, ?_⟩
  · exact ⟨_, rfl, p, _, _, .int s, rfl, rfl, S, k2, _, rfl, _, rfl, _, _, rfl, rfl, _, rfl, p, _, _, .int f, rfl, rfl, S, k1, _, rfl, _, _, rfl, rfl, _, _, rfl, rfl, rfl, by rw [← e2]; rfl⟩
  rintro σ' _ ⟨rfl, rfl⟩
  refine ⟨_, rfl, p, _, _, .int k, rfl, rfl, S, k0, _, rfl, _, rfl, t3, fun t ht => ?_⟩
  have S1 := same_new ht (.tup (mkL (k, mxF a f s, mxS a f s)))
  have q1 : SqT K (upd H t (.tup (mkL (k, mxF a f s, mxS a f s)))) t (mkL (k, mxF a f s, mxS a f s)) := SqT.of upd_same
  refine ⟨_, rfl, _, rfl, _, _, rfl, rfl, _, rfl, _, _, rfl, rfl, _, rfl, ?_⟩
  rw [tb2, e3]
  refine blI (fun z => ?_) (fun z => ?_)
  · refine ⟨_, rfl, t, (k, mxF a f s, mxS a f s), rfl, q1, fun r H2 S2 h2 => q r H2 (S1.trans S2) ?_⟩
    have : mvd (.mix (a : Int)) (k, f, s) = ((k + 2) % 4, mxF a f s, mxS a f s) := by
      rw [mvd_mix, if_pos z]
    rw [this]
    exact h2
  · refine ⟨_, rfl, q t _ S1 ?_⟩
    have : mvd (.mix (a : Int)) (k, f, s) = (k, mxF a f s, mxS a f s) := by
      rw [mvd_mix, if_neg (by rw [z]; decide)]
    rw [this]
    exact q1
theorem sc_byturn : FnScope ["mark", "bit", "k", "signs"] ["mark", "bit", "k"] (defScope (top 42)) := ⟨rfl, rfl, rfl, by decide +kernel, rfl, by decide +kernel, by decide +kernel⟩
theorem ok_byturn (F : FunAt K "moved_by_turn" (top 42) .none) (X : K.In h) (G : h.Ns mainGlobals mg) : Cal P w K mg base (k + 1) "moved_by_turn" ["mark", "bit", "k"] (spByTurn K) := by
  have nd := sc_byturn.nd
  refine F.cal X G sc_byturn (bnd3 fun _ _ _ _ _ _ _ _ _ => rfl) (fun vs H Q E h => ?_) (fun f cdv A outer s H vs Q E hr h => ?_)
  · obtain ⟨p, m, a, j, rfl, _⟩ := h; rfl
  obtain ⟨p, ⟨k, f, s⟩, a, j, rfl, S, q⟩ := h
  refine ⟨_, (@pss_cons _ _ _ _ _ (ps_if (pt_not (pt_truI (pe_op op_and (pe_ix ix_tup (pv 0) pe_int (fun _ _ => rfl)) (pv 1)) (by intro _; rfl)))
      (@pss_one _ _ _ (ps_ret (pv 0)))
      pss_nil)
    (@pss_cut _ _ _ _ _ (@ps_set _ _ 3 _ _ _ _ nd rfl (Or.inl rfl) (pe_ifExp (pt_cmpR op_eq (pe_op op_mod (pv 2) pe_int) pe_int (nomark _)) (pe_op op_xor (pe_ix ix_tup (pv 0) pe_int (fun _ _ => rfl)) (pv 1)) (pe_ix ix_tup (pv 0) pe_int (fun _ _ => rfl))) rfl (.inl rfl))
    (@pss_one _ _ _ (ps_ret (@pe_tup _ _ _ _ _ (pa_cons (pe_op op_mod (pe_op op_add (pe_ix ix_tup (pv 0) pe_int (fun _ _ => rfl)) (pe_op op_fdiv (pv 2) pe_int)) pe_int) (pa_cons (pe_ix ix_tup (pv 0) pe_int (fun _ _ => rfl)) (pa_cons (pv 3) pa_nil)))))))), ?_⟩
  try dsimp only [cxK]
  refine ⟨_, rfl, p, _, _, .int f, rfl, rfl, S, k1, _, rfl, _, _, rfl, rfl, _, rfl, ?_⟩
  rw [tb]
  rw [mvd_turn] at q
  refine nblI (fun z => ?_) (fun z => ?_)
  · rw [if_neg (by rw [z]; decide)] at q
    exact ⟨_, rfl, q p H (Same.refl _) S⟩
  rw [if_pos z] at q
  refine ⟨fun σ' H' => H = H' ∧ σ' = [some (.ref p), some (.int ((2 ^ a : Nat) : Int)), some (.int (j : Int)), some (.int ((if j % 4 = 2 then fl s a else s : Nat) : Int))], ?_, ?_⟩
  · refine ⟨_, rfl, _, _, rfl, rfl, (by show (0 : Int) < _; decide), rfl, _, rfl, eqI (fun y => ?_) (fun y => ?_)⟩
    · exact ⟨_, rfl, p, _, _, .int s, rfl, rfl, S, k2, _, rfl, _, _, rfl, rfl, rfl, by rw [if_pos (by omega), ← xb]; rfl⟩
    · exact ⟨_, rfl, p, _, _, .int s, rfl, rfl, S, k2, rfl, by rw [if_neg (by omega)]; rfl⟩
  rintro σ' _ ⟨rfl, rfl⟩
  refine ⟨_, rfl, p, _, _, .int k, rfl, rfl, S, k0, _, rfl, _, _, rfl, rfl, ⟨by decide, by decide⟩, _, _, rfl, rfl, _, _, rfl, rfl, (by show (0 : Int) < _; decide), _, rfl, p, _, _, .int f, rfl, rfl, S, k1, _, rfl, t3, fun r hr => q r _ (same_new hr _) (SqT.of ?_)⟩
  rw [upd_same]
  have e : ((k : Int) + (j : Int) / 2) % 4 = (((k + j / 2) % 4 : Nat) : Int) := by omega
  show some (HO.tup [.int (((k : Int) + (j : Int) / 2) % 4), .int f, .int ((if j % 4 = 2 then fl s a else s : Nat) : Int)]) = _
  rw [e]
theorem sc_byif : FnScope ["mark", "bit", "other", "flips", "signs"] ["mark", "bit", "other"] (defScope (top 43)) := ⟨rfl, rfl, rfl, by decide +kernel, rfl, by decide +kernel, by decide +kernel⟩
theorem ok_byif (F : FunAt K "moved_by_if" (top 43) .none) (X : K.In h) (G : h.Ns mainGlobals mg) : Cal P w K mg base (k + 1) "moved_by_if" ["mark", "bit", "other"] (spByIf K) := by
  have nd := sc_byif.nd
  refine F.cal X G sc_byif (bnd3 fun _ _ _ _ _ _ _ _ _ => rfl) (fun vs H Q E h => ?_) (fun f cdv A outer s H vs Q E hr h => ?_)
  · obtain ⟨p, m, a, j, rfl, _⟩ := h; rfl
  obtain ⟨p, ⟨k, f, s⟩, a, b, rfl, S, q⟩ := h
  rw [mvd_iff] at q
  refine ⟨_, (@pss_cut _ _ _ _ _ (@ps_set _ _ 3 _ _ _ _ nd rfl (Or.inl rfl) (pe_ifExp (pt_truI (pe_op op_and (pe_ix ix_tup (pv 0) pe_int (fun _ _ => rfl)) (pv 1)) (by intro _; rfl)) (pe_op op_xor (pe_ix ix_tup (pv 0) pe_int (fun _ _ => rfl)) (pv 2)) (pe_ix ix_tup (pv 0) pe_int (fun _ _ => rfl))) rfl (.inl rfl))
    (@pss_cut _ _ _ _ _ (@ps_set _ _ 4 _ _ _ _ nd rfl (Or.inl rfl) (pe_ifExp (pt_truI (pe_op op_and (pe_ix ix_tup (pv 0) pe_int (fun _ _ => rfl)) (pv 2)) (by intro _; rfl)) (pe_op op_xor (pe_ix ix_tup (pv 0) pe_int (fun _ _ => rfl)) (pv 1)) (pe_ix ix_tup (pv 0) pe_int (fun _ _ => rfl))) rfl (.inl rfl))
    (@pss_one _ _ _ (ps_ret (@pe_tup _ _ _ _ _ (pa_cons (pe_ix ix_tup (pv 0) pe_int (fun _ _ => rfl)) (pa_cons (pv 3) (pa_cons (pv 4) pa_nil)))))))), ?_⟩
  try dsimp only [cxK]
  refine ⟨fun σ' H' => H = H' ∧ σ' = [some (.ref p), some (.int ((2 ^ a : Nat) : Int)), some (.int ((2 ^ b : Nat) : Int)), some (.int ((if f.testBit a then fl f b else f : Nat) : Int)), none], ?_, ?_⟩
  · refine ⟨_, rfl, p, _, _, .int f, rfl, rfl, S, k1, _, rfl, _, _, rfl, rfl, _, rfl, ?_⟩
    rw [tb]
    refine blI (fun z => ?_) (fun z => ?_)
    · exact ⟨_, rfl, p, _, _, .int f, rfl, rfl, S, k1, _, rfl, _, _, rfl, rfl, rfl, by rw [if_pos z, ← xb]; rfl⟩
    · exact ⟨_, rfl, p, _, _, .int f, rfl, rfl, S, k1, rfl, by rw [if_neg (by rw [z]; decide)]; rfl⟩
  rintro σ' _ ⟨rfl, rfl⟩
  refine ⟨fun σ' H' => H = H' ∧ σ' = [some (.ref p), some (.int ((2 ^ a : Nat) : Int)), some (.int ((2 ^ b : Nat) : Int)), some (.int ((if f.testBit a then fl f b else f : Nat) : Int)), some (.int ((if s.testBit b then fl s a else s : Nat) : Int))], ?_, ?_⟩
  · refine ⟨_, rfl, p, _, _, .int s, rfl, rfl, S, k2, _, rfl, _, _, rfl, rfl, _, rfl, ?_⟩
    rw [tb]
    refine blI (fun z => ?_) (fun z => ?_)
    · exact ⟨_, rfl, p, _, _, .int s, rfl, rfl, S, k2, _, rfl, _, _, rfl, rfl, rfl, by rw [if_pos z, ← xb]; rfl⟩
    · exact ⟨_, rfl, p, _, _, .int s, rfl, rfl, S, k2, rfl, by rw [if_neg (show ¬ s.testBit b = true by rw [z]; decide)]; rfl⟩
  rintro σ' _ ⟨rfl, rfl⟩
  exact ⟨_, rfl, p, _, _, .int k, rfl, rfl, S, k0, _, rfl, _, rfl, t3, fun r hr => q r _ (same_new hr _) (SqT.of upd_same)⟩
theorem sc_bypair : FnScope ["mark", "bit", "other", "signs", "moved"] ["mark", "bit", "other"] (defScope (top 44)) := ⟨rfl, rfl, rfl, by decide +kernel, rfl, by decide +kernel, by decide +kernel⟩
theorem ok_bypair (F : FunAt K "moved_by_pair" (top 44) .none) (X : K.In h) (G : h.Ns mainGlobals mg) (c_turned_about : Cal P w K mg base k "turned_about" ["mark"] (spAbout K)) : Cal P w K mg base (k + 1) "moved_by_pair" ["mark", "bit", "other"] (spByPair K) := by
  have nd := sc_bypair.nd
  refine F.cal X G sc_bypair (bnd3 fun _ _ _ _ _ _ _ _ _ => rfl) (fun vs H Q E h => ?_) (fun f cdv A outer s H vs Q E hr h => ?_)
  · obtain ⟨p, m, a, j, rfl, _⟩ := h; rfl
  obtain ⟨p, ⟨k, f, s⟩, a, b, rfl, S, q⟩ := h
  rw [mvd_pair] at q
  refine ⟨_, (@pss_cons _ _ _ _ _ (@ps_set _ _ 3 _ _ _ _ nd rfl (Or.inl rfl) (pe_ix ix_tup (pv 0) pe_int (fun _ _ => rfl)) rfl (.inl rfl))
    (@pss_cut _ _ _ _ _ (ps_if (pt_truI (pe_op op_and (pe_ix ix_tup (pv 0) pe_int (fun _ _ => rfl)) (pv 1)) (by intro _; rfl))
      (@pss_one _ _ _ (@ps_set _ _ 3 _ _ _ _ nd rfl (Or.inl rfl) (pe_op op_xor (pv 3) (pv 2)) rfl (.inl rfl)))
      pss_nil)
    (@pss_cut _ _ _ _ _ (ps_if (pt_truI (pe_op op_and (pe_ix ix_tup (pv 0) pe_int (fun _ _ => rfl)) (pv 2)) (by intro _; rfl))
      (@pss_one _ _ _ (@ps_set _ _ 3 _ _ _ _ nd rfl (Or.inl rfl) (pe_op op_xor (pv 3) (pv 1)) rfl (.inl rfl)))
      pss_nil)
    (@pss_cons _ _ _ _ _ (@ps_set _ _ 4 _ _ _ _ nd rfl (Or.inl rfl) (@pe_tup _ _ _ _ _ (pa_cons (pe_ix ix_tup (pv 0) pe_int (fun _ _ => rfl)) (pa_cons (pe_ix ix_tup (pv 0) pe_int (fun _ _ => rfl)) (pa_cons (pv 3) pa_nil)))) rfl (.inl rfl))
    (@pss_one _ _ _ (ps_ret (pe_ifExp (PW.pt (pw_and (pt_truI (pe_op op_and (pe_ix ix_tup (pv 0) pe_int (fun _ _ => rfl)) (pv 1)) (by intro _; rfl)) (pw_and1 (pt_truI (pe_op op_and (pe_ix ix_tup (pv 0) pe_int (fun _ _ => rfl)) (pv 2)) (by intro _; rfl))))) (pe_cal c_turned_about hr rfl (pa_cons (pv 4) pa_nil)) (pv 4)))))))), ?_⟩
  try dsimp only [cxK]
  refine ⟨_, rfl, p, _, _, .int s, rfl, rfl, S, k2, ?_⟩
  refine ⟨fun σ' H' => H = H' ∧ σ' = [some (.ref p), some (.int ((2 ^ a : Nat) : Int)), some (.int ((2 ^ b : Nat) : Int)), some (.int ((if f.testBit a then fl s b else s : Nat) : Int)), none], ?_, ?_⟩
  · refine ⟨_, rfl, p, _, _, .int f, rfl, rfl, S, k1, _, rfl, _, _, rfl, rfl, _, rfl, ?_⟩
    rw [tb]
    refine blI (fun z => ?_) (fun z => ?_)
    · exact ⟨_, rfl, _, rfl, _, _, rfl, rfl, rfl, by rw [if_pos z, ← xb]; rfl⟩
    · exact ⟨rfl, by rw [if_neg (by rw [z]; decide)]; rfl⟩
  rintro σ' _ ⟨rfl, rfl⟩
  refine ⟨fun σ' H' => H = H' ∧ σ' = [some (.ref p), some (.int ((2 ^ a : Nat) : Int)), some (.int ((2 ^ b : Nat) : Int)), some (.int (prS a b f s : Nat)), none], ?_, ?_⟩
  · refine ⟨_, rfl, p, _, _, .int f, rfl, rfl, S, k1, _, rfl, _, _, rfl, rfl, _, rfl, ?_⟩
    rw [tb]
    refine blI (fun z => ?_) (fun z => ?_)
    · exact ⟨_, rfl, _, rfl, _, _, rfl, rfl, rfl, by rw [prS, if_pos z, ← xb]; rfl⟩
    · exact ⟨rfl, by rw [prS, if_neg (show ¬ f.testBit b = true by rw [z]; decide)]⟩
  rintro σ' _ ⟨rfl, rfl⟩
  refine ⟨_, rfl, p, _, _, .int k, rfl, rfl, S, k0, _, rfl, p, _, _, .int f, rfl, rfl, S, k1, _, rfl, t3, fun t ht => ?_⟩
  have S1 := same_new ht (.tup (mkL (k, f, prS a b f s)))
  have q1 : SqT K (upd H t (.tup (mkL (k, f, prS a b f s)))) t (mkL (k, f, prS a b f s)) := SqT.of upd_same
  have SS := S1.tup S
  refine ⟨_, rfl, p, _, _, .int f, rfl, rfl, SS, k1, _, rfl, _, _, rfl, rfl, _, rfl, ?_⟩
  rw [tb]
  refine blI (fun z => ?_) (fun z => ?_)
  · refine ⟨_, rfl, p, _, _, .int f, rfl, rfl, SS, k1, _, rfl, _, _, rfl, rfl, _, rfl, ?_⟩
    rw [tb]
    refine blI (fun y => ?_) (fun y => ?_)
    · rw [if_pos (by rw [z, y]; rfl)] at q
      exact ⟨_, rfl, t, (k, f, prS a b f s), rfl, q1, fun r H2 S2 h2 => q r H2 (S1.trans S2) h2⟩
    · rw [if_neg (by rw [z, y]; decide)] at q
      exact ⟨_, rfl, q t _ S1 q1⟩
  · rw [if_neg (by rw [z]; simp)] at q
    exact iteF ⟨_, rfl, q t _ S1 q1⟩
end
end K55S

set_option maxHeartbeats 4000000
namespace K55S
open PySem PySem.Spec PyProof.Rows L2 Ba Am Pc M71
open K73 (top Bs spExch)
open M72 (fl sw VOk)
open M75 (Mk mvd mvds Br)
def spMovedBy (K : PySem.W.Frag) : Sp := fun vs H Q _ => ∃ (p q : Addr) (m : Mk) (x : Mv) (c : Nat), vs = [.ref p, .ref q] ∧ SqT K H p (mkL m) ∧ H q = some (mT (mm x)) ∧ OkK c m ∧ c ≤ 6 ∧ VOk c x ∧ Br x ∧ Mkr K H Q (mvd x m)
def spThrough (K : PySem.W.Frag) : Sp := fun vs H Q _ => ∃ (p l : Addr) (m : Mk) (row : List Mv) (c : Nat), vs = [.ref p, .ref l] ∧ SqT K H p (mkL m) ∧ RowAt H l row ∧ OkK c m ∧ c ≤ 6 ∧ (∀ x ∈ row, VOk c x) ∧ (∀ x ∈ row, Br x) ∧ row.length ≤ 200 ∧ Mkr K H Q (mvds row m)
theorem at0 {x : V} {xs : List V} : atI (x :: xs) 0 = some x := L2.atI_nat (j := 0) rfl
theorem shl_cell {a : Int} (h0 : 0 ≤ a) : (1 : Int) * 2 ^ a.toNat = ((2 ^ a.toNat : Nat) : Int) := by simp
theorem mvd_flip (a k f s : Nat) : mvd (.flip (a : Int)) (k, f, s) = (if s.testBit a then (k + 2) % 4 else k, f, s) := rfl
theorem mvds_app : ∀ (r t : List Mv) (m : Mk), mvds (r ++ t) m = mvds t (mvds r m)
  | [], _, _ => rfl
  | x :: r, t, m => mvds_app r t (mvd x m)
theorem mvds_ok {c : Nat} : ∀ {row : List Mv} {m : Mk}, (∀ x ∈ row, VOk c x) → OkK c m → OkK c (mvds row m)
  | [], _, _, h => h
  | x :: r, m, o, h => mvds_ok (row := r) (fun y hy => o y (.tail _ hy)) (mvd_ok (o x (.head _)) h)
theorem rows_len {H : Hp} : ∀ {ps : List Addr} {ms : List Mm}, RowsM H ps ms → ps.length = ms.length
  | [], [], .nil => rfl
  | _ :: _, _ :: _, .cons _ r => by rw [List.length_cons, List.length_cons, rows_len r]
theorem rows_get {H : Hp} : ∀ {ps : List Addr} {row : List Mv} {i : Nat} {p : Addr}, RowsM H ps (row.map mm) → ps[i]? = some p → ∃ m, row[i]? = some m ∧ H p = some (mT (mm m))
  | p' :: ps, m :: ms, 0, p, .cons a r, h => by
    have : p' = p := by simpa using h
    subst this
    exact ⟨m, rfl, a⟩
  | p' :: ps, m :: ms, i + 1, p, .cons a r, h => by
    obtain ⟨m', b, c⟩ := rows_get (ps := ps) (row := ms) (i := i) (p := p) r (by simpa using h)
    exact ⟨m', b, c⟩
section
variable {P : Program} {w : World} {K : PySem.W.Frag} {mg : Str → Option Value} {base : Heap} {k : Nat} {h : Heap}
theorem sc_movedby : FnScope ["mark", "move", "bit", "other"] ["mark", "move"] (defScope (top 40)) := ⟨rfl, rfl, rfl, by decide +kernel, rfl, by decide +kernel, by decide +kernel⟩
theorem ok_movedby (F : FunAt K "moved_by" (top 40) .none) (X : K.In h) (G : h.Ns mainGlobals mg) (c_turned_about : Cal P w K mg base k "turned_about" ["mark"] (spAbout K)) (c_moved_by_mix : Cal P w K mg base k "moved_by_mix" ["mark", "bit"] (spByMix K)) (c_moved_by_turn : Cal P w K mg base k "moved_by_turn" ["mark", "bit", "k"] (spByTurn K))
    (c_moved_by_if : Cal P w K mg base k "moved_by_if" ["mark", "bit", "other"] (spByIf K)) (c_moved_by_pair : Cal P w K mg base k "moved_by_pair" ["mark", "bit", "other"] (spByPair K)) (c_exchanged : Cal P w K mg base k "exchanged" ["word", "bit", "other"] spExch) : Cal P w K mg base (k + 1) "moved_by" ["mark", "move"] (spMovedBy K) := by
  have nd := sc_movedby.nd
  refine F.cal X G sc_movedby (bnd2 fun _ _ _ _ _ _ _ _ => rfl) (fun vs H Q E h => ?_) (fun f cdv A outer s H vs Q E hr h => ?_)
  · obtain ⟨p, q, m, x, c, rfl, _⟩ := h; rfl
  obtain ⟨p, q, ⟨k, f, s⟩, x, c, rfl, S, hq, o, c6, ok, br, kq⟩ := h
  have SP : SqT K H q (.str (nm x) :: (ns x).map V.int) := SqT.of hq
  obtain ⟨g0, g1⟩ : 0 ≤ hd x ∧ hd x < (c : Int) := by
    obtain ⟨r, e⟩ := cells_cons x
    have hm : hd x ∈ x.cells := by rw [e]; exact .head _
    exact ⟨ok.1.nn _ hm, ok.2 _ hm⟩
  refine ⟨_, (@pss_cut _ _ _ _ _ (@ps_set _ _ 2 _ _ _ _ nd rfl (Or.inl rfl) (pe_op op_shlS pe_int (pe_ix ix_tup (pv 1) pe_int (fun _ _ => rfl))) rfl (.inl rfl))
    (@pss_cons _ _ _ _ _ (ps_if (pt_cmpR op_eq (pe_ix ix_tup (pv 1) pe_int (fun _ _ => rfl)) pe_str (nomark _))
      (@pss_one _ _ _ (ps_ret (pe_ifExp (pt_truI (pe_op op_and (pe_ix ix_tup (pv 0) pe_int (fun _ _ => rfl)) (pv 2)) (by intro _; rfl)) (pe_cal c_turned_about hr rfl (pa_cons (pv 0) pa_nil)) (pv 0))))
      pss_nil)
    (@pss_cons _ _ _ _ _ (ps_if (pt_cmpR op_eq (pe_ix ix_tup (pv 1) pe_int (fun _ _ => rfl)) pe_str (nomark _))
      (@pss_one _ _ _ (ps_ret (pe_cal c_moved_by_mix hr rfl (pa_cons (pv 0) (pa_cons (pv 2) pa_nil)))))
      pss_nil)
    (@pss_cons _ _ _ _ _ (ps_if (pt_cmpR op_eq (pe_ix ix_tup (pv 1) pe_int (fun _ _ => rfl)) pe_str (nomark _))
      (@pss_one _ _ _ (ps_ret (pe_cal c_moved_by_turn hr rfl (pa_cons (pv 0) (pa_cons (pv 2) (pa_cons (pe_ix ix_tup (pv 1) pe_int (fun _ _ => rfl)) pa_nil))))))
      pss_nil)
    (@pss_cut _ _ _ _ _ (@ps_set _ _ 3 _ _ _ _ nd rfl (Or.inl rfl) (pe_op op_shlS pe_int (pe_ix ix_tup (pv 1) pe_int (fun _ _ => rfl))) rfl (.inl rfl))
    (@pss_cons _ _ _ _ _ (ps_if (pt_cmpR op_eq (pe_ix ix_tup (pv 1) pe_int (fun _ _ => rfl)) pe_str (nomark _))
      (@pss_one _ _ _ (ps_ret (pe_cal c_moved_by_if hr rfl (pa_cons (pv 0) (pa_cons (pv 2) (pa_cons (pv 3) pa_nil))))))
      pss_nil)
    (@pss_cons _ _ _ _ _ (ps_if (pt_cmpR op_eq (pe_ix ix_tup (pv 1) pe_int (fun _ _ => rfl)) pe_str (nomark _))
      (@pss_one _ _ _ (ps_ret (pe_cal c_moved_by_pair hr rfl (pa_cons (pv 0) (pa_cons (pv 2) (pa_cons (pv 3) pa_nil))))))
      pss_nil)
    (@pss_one _ _ _ (ps_ret (@pe_tup _ _ _ _ _ (pa_cons (pe_ix ix_tup (pv 0) pe_int (fun _ _ => rfl)) (pa_cons (pe_cal c_exchanged hr rfl (pa_cons (pe_ix ix_tup (pv 0) pe_int (fun _ _ => rfl)) (pa_cons (pv 2) (pa_cons (pv 3) pa_nil)))) (pa_cons (pe_cal c_exchanged hr rfl (pa_cons (pe_ix ix_tup (pv 0) pe_int (fun _ _ => rfl)) (pa_cons (pv 2) (pa_cons (pv 3) pa_nil)))) pa_nil))))))))))))), ?_⟩
  try dsimp only [cxK]
  refine ⟨fun σ' H' => H = H' ∧ σ' = [some (.ref p), some (.ref q), some (.int ((2 ^ (hd x).toNat : Nat) : Int)), none], ?_, ?_⟩
  · exact ⟨_, rfl, q, _, _, .int (hd x), rfl, rfl, SP, at1m x, _, _, rfl, rfl, ⟨1, sz1, by omega, by omega⟩, rfl, by rw [← shl_cell g0]; rfl⟩
  rintro σ' _ ⟨rfl, rfl⟩
  cases x with
  | flip a =>
    obtain ⟨A, rfl⟩ : ∃ A : Nat, a = (A : Int) := ⟨a.toNat, (tn g0).symm⟩
    rw [mvd_flip] at kq
    refine ⟨_, rfl, q, _, _, .str "flip", rfl, rfl, SP, at0, rfl, _, rfl, decI (fun _ => ?_) (fun z => absurd rfl z)⟩
    refine ⟨_, rfl, p, _, _, .int s, rfl, rfl, S, k2, _, rfl, _, _, rfl, rfl, _, rfl, ?_⟩
    show (if (Builtin.bitAnd (s : Int) ((2 ^ A : Nat) : Int) != 0) = true then _ else _)
    rw [tb]
    refine blI (fun z => ?_) (fun z => ?_)
    · rw [if_pos z] at kq
      exact ⟨_, rfl, p, (k, f, s), rfl, S, kq⟩
    · rw [if_neg (by rw [z]; decide)] at kq
      exact ⟨_, rfl, kq p H (Same.refl _) S⟩
  | mix a =>
    obtain ⟨A, rfl⟩ : ∃ A : Nat, a = (A : Int) := ⟨a.toNat, (tn g0).symm⟩
    refine ⟨_, rfl, q, _, _, .str "mix", rfl, rfl, SP, at0, rfl, _, rfl, decI (fun z => absurd (V.str.inj z) (by decide)) (fun _ => ?_)⟩
    refine ⟨_, rfl, q, _, _, .str "mix", rfl, rfl, SP, at0, rfl, _, rfl, decI (fun _ => ?_) (fun z => absurd rfl z)⟩
    exact ⟨_, rfl, _, rfl, p, (k, f, s), c, A, rfl, S, o, c6, by have : (A : Int) < c := g1; omega, kq⟩
  | turn a j =>
    have okj : 0 ≤ a ∧ 1 ≤ j ∧ j ≤ 7 := ok.1
    obtain ⟨A, rfl⟩ : ∃ A : Nat, a = (A : Int) := ⟨a.toNat, (tn g0).symm⟩
    obtain ⟨J, rfl⟩ : ∃ J : Nat, j = (J : Int) := ⟨j.toNat, (tn (by omega)).symm⟩
    refine ⟨_, rfl, q, _, _, .str "turn", rfl, rfl, SP, at0, rfl, _, rfl, decI (fun z => absurd (V.str.inj z) (by decide)) (fun _ => ?_)⟩
    refine ⟨_, rfl, q, _, _, .str "turn", rfl, rfl, SP, at0, rfl, _, rfl, decI (fun z => absurd (V.str.inj z) (by decide)) (fun _ => ?_)⟩
    refine ⟨_, rfl, q, _, _, .str "turn", rfl, rfl, SP, at0, rfl, _, rfl, decI (fun _ => ?_) (fun z => absurd rfl z)⟩
    exact ⟨_, rfl, _, rfl, _, rfl, q, _, _, .int J, rfl, rfl, SP, k2, p, (k, f, s), A, J, rfl, S, kq⟩
  | iff a b =>
    have okj : 0 ≤ a ∧ 0 ≤ b ∧ a ≠ b := ok.1
    have hb : b < (c : Int) := ok.2 b (by simp [Mv.cells])
    obtain ⟨A, rfl⟩ : ∃ A : Nat, a = (A : Int) := ⟨a.toNat, (tn g0).symm⟩
    obtain ⟨J, rfl⟩ : ∃ J : Nat, b = (J : Int) := ⟨b.toNat, (tn okj.2.1).symm⟩
    refine ⟨_, rfl, q, _, _, .str "if", rfl, rfl, SP, at0, rfl, _, rfl, decI (fun z => absurd (V.str.inj z) (by decide)) (fun _ => ?_)⟩
    refine ⟨_, rfl, q, _, _, .str "if", rfl, rfl, SP, at0, rfl, _, rfl, decI (fun z => absurd (V.str.inj z) (by decide)) (fun _ => ?_)⟩
    refine ⟨_, rfl, q, _, _, .str "if", rfl, rfl, SP, at0, rfl, _, rfl, decI (fun z => absurd (V.str.inj z) (by decide)) (fun _ => ?_)⟩
    refine ⟨fun σ' H' => H = H' ∧ σ' = [some (.ref p), some (.ref q), some (.int ((2 ^ A : Nat) : Int)), some (.int ((2 ^ J : Nat) : Int))], ?_, ?_⟩
    · exact ⟨_, rfl, q, _, _, .int J, rfl, rfl, SP, k2, _, _, rfl, rfl, ⟨1, sz1, by omega, by omega⟩, rfl, by rw [← ipow J]; rfl⟩
    rintro σ' _ ⟨rfl, rfl⟩
    refine ⟨_, rfl, q, _, _, .str "if", rfl, rfl, SP, at0, rfl, _, rfl, decI (fun _ => ?_) (fun z => absurd rfl z)⟩
    exact ⟨_, rfl, _, rfl, _, rfl, p, (k, f, s), A, J, rfl, S, kq⟩
  | pair a b =>
    have okj : 0 ≤ a ∧ 0 ≤ b ∧ a ≠ b := ok.1
    have hb : b < (c : Int) := ok.2 b (by simp [Mv.cells])
    obtain ⟨A, rfl⟩ : ∃ A : Nat, a = (A : Int) := ⟨a.toNat, (tn g0).symm⟩
    obtain ⟨J, rfl⟩ : ∃ J : Nat, b = (J : Int) := ⟨b.toNat, (tn okj.2.1).symm⟩
    refine ⟨_, rfl, q, _, _, .str "pair", rfl, rfl, SP, at0, rfl, _, rfl, decI (fun z => absurd (V.str.inj z) (by decide)) (fun _ => ?_)⟩
    refine ⟨_, rfl, q, _, _, .str "pair", rfl, rfl, SP, at0, rfl, _, rfl, decI (fun z => absurd (V.str.inj z) (by decide)) (fun _ => ?_)⟩
    refine ⟨_, rfl, q, _, _, .str "pair", rfl, rfl, SP, at0, rfl, _, rfl, decI (fun z => absurd (V.str.inj z) (by decide)) (fun _ => ?_)⟩
    refine ⟨fun σ' H' => H = H' ∧ σ' = [some (.ref p), some (.ref q), some (.int ((2 ^ A : Nat) : Int)), some (.int ((2 ^ J : Nat) : Int))], ?_, ?_⟩
    · exact ⟨_, rfl, q, _, _, .int J, rfl, rfl, SP, k2, _, _, rfl, rfl, ⟨1, sz1, by omega, by omega⟩, rfl, by rw [← ipow J]; rfl⟩
    rintro σ' _ ⟨rfl, rfl⟩
    refine ⟨_, rfl, q, _, _, .str "pair", rfl, rfl, SP, at0, rfl, _, rfl, decI (fun z => absurd (V.str.inj z) (by decide)) (fun _ => ?_)⟩
    refine ⟨_, rfl, q, _, _, .str "pair", rfl, rfl, SP, at0, rfl, _, rfl, decI (fun _ => ?_) (fun z => absurd rfl z)⟩
    exact ⟨_, rfl, _, rfl, _, rfl, p, (k, f, s), A, J, rfl, S, kq⟩
  | swap a b =>
    have okj : 0 ≤ a ∧ 0 ≤ b ∧ a ≠ b := ok.1
    have hb : b < (c : Int) := ok.2 b (by simp [Mv.cells])
    obtain ⟨A, rfl⟩ : ∃ A : Nat, a = (A : Int) := ⟨a.toNat, (tn g0).symm⟩
    obtain ⟨J, rfl⟩ : ∃ J : Nat, b = (J : Int) := ⟨b.toNat, (tn okj.2.1).symm⟩
    refine ⟨_, rfl, q, _, _, .str "swap", rfl, rfl, SP, at0, rfl, _, rfl, decI (fun z => absurd (V.str.inj z) (by decide)) (fun _ => ?_)⟩
    refine ⟨_, rfl, q, _, _, .str "swap", rfl, rfl, SP, at0, rfl, _, rfl, decI (fun z => absurd (V.str.inj z) (by decide)) (fun _ => ?_)⟩
    refine ⟨_, rfl, q, _, _, .str "swap", rfl, rfl, SP, at0, rfl, _, rfl, decI (fun z => absurd (V.str.inj z) (by decide)) (fun _ => ?_)⟩
    refine ⟨fun σ' H' => H = H' ∧ σ' = [some (.ref p), some (.ref q), some (.int ((2 ^ A : Nat) : Int)), some (.int ((2 ^ J : Nat) : Int))], ?_, ?_⟩
    · exact ⟨_, rfl, q, _, _, .int J, rfl, rfl, SP, k2, _, _, rfl, rfl, ⟨1, sz1, by omega, by omega⟩, rfl, by rw [← ipow J]; rfl⟩
    rintro σ' _ ⟨rfl, rfl⟩
    refine ⟨_, rfl, q, _, _, .str "swap", rfl, rfl, SP, at0, rfl, _, rfl, decI (fun z => absurd (V.str.inj z) (by decide)) (fun _ => ?_)⟩
    refine ⟨_, rfl, q, _, _, .str "swap", rfl, rfl, SP, at0, rfl, _, rfl, decI (fun z => absurd (V.str.inj z) (by decide)) (fun _ => ?_)⟩
    have ac : A < c := by have : (A : Int) < c := g1; omega
    have bc : J < c := by omega
    have ne : A ≠ J := fun z => okj.2.2 (by rw [z])
    refine ⟨_, rfl, p, _, _, .int k, rfl, rfl, S, k0, _, rfl, p, _, _, .int f, rfl, rfl, S, k1, _, rfl, _, rfl, f, A, J, rfl, fun H1 S1 => ?_⟩
    refine ⟨_, rfl, p, _, _, .int s, rfl, rfl, S1.tup S, k2, _, rfl, _, rfl, s, A, J, rfl, fun H2 S2 => ⟨t3, fun r hr => kq r _ ((S1.trans S2).trans (same_new hr _)) (SqT.of ?_)⟩⟩
    rw [upd_same, (e2_at c6 ac bc ne o.f).1, (e2_at c6 ac bc ne o.s).1]
    rfl
  | cross a b d => exact absurd br id
theorem sc_through : FnScope ["mark", "row", "behind", "move"] ["mark", "row"] (defScope (top 39)) := ⟨rfl, rfl, rfl, by decide +kernel, rfl, by decide +kernel, by decide +kernel⟩
theorem ok_through (F : FunAt K "moved_through" (top 39) .none) (X : K.In h) (G : h.Ns mainGlobals mg) (c_moved_by : Cal P w K mg base k "moved_by" ["mark", "move"] (spMovedBy K)) : Cal P w K mg base (k + 1) "moved_through" ["mark", "row"] (spThrough K) := by
  have nd := sc_through.nd
  refine F.cal X G sc_through (bnd2 fun _ _ _ _ _ _ _ _ => rfl) (fun vs H Q E h => ?_) (fun f cdv A outer s H vs Q E hr h => ?_)
  · obtain ⟨p, q, m, x, c, rfl, _⟩ := h; rfl
  obtain ⟨p, l, m, row, c, rfl, S, ⟨ps, hl, hrow⟩, o, c6, ok, br, l200, kq⟩ := h
  have SL : SqL K H l (ps.map V.ref) := SqL.of hl
  have pl : ps.length = row.length := by have := rows_len hrow; rw [List.length_map] at this; exact this
  refine ⟨_, (@pss_cons _ _ _ _ _ (@ps_set _ _ 2 _ _ _ _ nd rfl (Or.inl rfl) (pv 0) rfl (.inl rfl))
    (@pss_cons _ _ _ _ _ (ps_for PassesOwn.never rfl (pi_list (pv 1)) (pg_name (i := 3) nd rfl (Or.inl rfl))
      (@pss_one _ _ _ (@ps_set _ _ 2 _ _ _ _ nd rfl (Or.inl rfl) (pe_cal c_moved_by hr rfl (pa_cons (pv 2) (pa_cons (pv 3) pa_nil))) rfl (.inl rfl))))
    (@pss_one _ _ _ (ps_ret (pv 2))))), ?_⟩
  try dsimp only [cxK]
  refine ⟨_, rfl, _, rfl, l, rfl, ⟨_, SL⟩, for_list (K := K) (a := l) (xs := ps.map V.ref) (fun i σ H' => Same H H' ∧ ∃ (b : Addr) (v3 : Option V), SqT K H' b (mkL (mvds (row.take i) m)) ∧ σ = [some (.ref p), some (.ref l), some (.ref b), v3])
    ⟨Same.refl _, p, none, by rw [List.take_zero]; exact S, rfl⟩ (fun i σ H' _ e => e.1.seq SL) ?_ ?_⟩
  · rintro i x σ H1 hx ⟨S1, b, v3, hb, rfl⟩
    rw [List.getElem?_map] at hx
    obtain ⟨q, hq, rfl⟩ := Option.map_eq_some_iff.mp hx
    obtain ⟨y, hy, ey⟩ := rows_get hrow hq
    have hm : y ∈ row := List.mem_of_getElem? hy
    refine ⟨_, rfl, _, rfl, b, q, _, y, c, rfl, hb, S1 _ _ ey, mvds_ok (fun z hz => ok z (List.mem_of_mem_take hz)) o, c6, ok y hm, br y hm, fun r H2 S2 h2 => ⟨S1.trans S2, r, _, ?_, rfl⟩⟩
    rw [List.take_add_one, hy, Option.toList_some, mvds_app]
    exact h2
  · rintro σ H1 ⟨S1, b, v3, hb, rfl⟩
    rw [List.length_map, pl, List.take_length] at hb
    exact ⟨_, rfl, kq b H1 S1 hb⟩
end
end K55S

set_option maxHeartbeats 4000000
namespace K55S
open PySem PySem.Spec PyProof.Rows L2 Ba Am Pc M71
open K73 (top Bs)
open M72 (fl sw VOk)
open M75 (Mk mvd mvds Br)
def oddT : Mv → Bool
  | .turn _ j => decide (V.int (j % 2) = V.int 1)
  | _ => false
def brB : Mv → Bool
  | .cross _ _ _ => false
  | x => !oddT x
def spOdd : Sp := fun vs H Q _ => ∃ (p : Addr) (x : Mv), vs = [.ref p] ∧ H p = some (mT (mm x)) ∧ Q (.bl (oddT x)) H
def spIsBr : Sp := fun vs H Q _ => ∃ (p : Addr) (x : Mv), vs = [.ref p] ∧ H p = some (mT (mm x)) ∧ Q (.bl (brB x)) H
theorem turn_of {x : Mv} (e : nm x = "turn") : ∃ a j, x = .turn a j := by
  have := (is_turn x).mp e
  cases x <;> first | exact ⟨_, _, rfl⟩ | simp [code] at this
theorem odd_not {x : Mv} (e : nm x ≠ "turn") : oddT x = false := by cases x <;> first | rfl | exact absurd rfl e
theorem br_cross {x : Mv} (e : nm x = "cross") : brB x = false := by
  have := (is_cross x).mp e
  cases x <;> first | rfl | simp [code] at this
theorem br_not {x : Mv} (e : nm x ≠ "cross") : brB x = !oddT x := by cases x <;> first | rfl | exact absurd rfl e
theorem br_iff {x : Mv} (o : M72.Ok x) : brB x = true ↔ Br x := by
  cases x with
  | turn a j =>
    have : 0 ≤ a ∧ 1 ≤ j ∧ j ≤ 7 := o
    show (!decide (V.int (j % 2) = V.int 1)) = true ↔ j.toNat % 2 = 0
    by_cases h : j % 2 = 1
    · rw [decide_eq_true (by rw [h])]
      simp
      omega
    · rw [decide_eq_false (fun z => h (V.int.inj z))]
      simp
      omega
  | cross a b d => exact ⟨fun z => (nomatch z), fun z => z.elim⟩
  | _ => exact ⟨fun _ => trivial, fun _ => rfl⟩
def fst : List Mv → Option Nat
  | [] => none
  | x :: r => if brB x then (fst r).map (· + 1) else some 0
def oV : Option Nat → V
  | none => .non
  | some n => .int n
def spBorne : Sp := fun vs H Q _ => ∃ (l : Addr) (row : List Mv), vs = [.ref l] ∧ RowAt H l row ∧ row.length ≤ 200 ∧ ∀ H', Same H H' → Q (oV (fst row)) H'
theorem fst_at : ∀ {row : List Mv} {i : Nat} {x : Mv}, (∀ y ∈ row.take i, brB y = true) → row[i]? = some x → brB x = false → fst row = some i
  | y :: r, 0, x, _, hx, hb => by
    have : y = x := by simpa using hx
    subst this
    show (if brB y then _ else some 0) = _
    rw [if_neg (by rw [hb]; decide)]
  | y :: r, i + 1, x, h, hx, hb => by
    have hy := h y (by rw [List.take_succ_cons]; exact .head _)
    show (if brB y then (fst r).map (· + 1) else some 0) = _
    rw [if_pos hy, fst_at (row := r) (i := i) (x := x) (fun z hz => h z (by rw [List.take_succ_cons]; exact .tail _ hz)) (by simpa using hx) hb]
    rfl
theorem fst_none : ∀ {row : List Mv}, (∀ y ∈ row, brB y = true) → fst row = none
  | [], _ => rfl
  | y :: r, h => by
    show (if brB y then (fst r).map (· + 1) else some 0) = _
    rw [if_pos (h y (.head _)), fst_none fun z hz => h z (.tail _ hz)]
    rfl
section
variable {P : Program} {w : World} {K : PySem.W.Frag} {mg : Str → Option Value} {base : Heap} {k : Nat} {h : Heap}
theorem sc_odd : FnScope ["move"] ["move"] (defScope (top 36)) := ⟨rfl, rfl, rfl, by decide +kernel, rfl, by decide +kernel, by decide +kernel⟩
theorem ok_odd (F : FunAt K "is_odd_turn" (top 36) .none) (X : K.In h) (G : h.Ns mainGlobals mg) : Cal P w K mg base (k + 1) "is_odd_turn" ["move"] spOdd := by
  have nd := sc_odd.nd
  refine F.cal X G sc_odd (bnd1 fun _ _ _ _ _ _ _ => rfl) (fun vs H Q E h => ?_) (fun f cdv A outer s H vs Q E hr h => ?_)
  · obtain ⟨p, x, rfl, _⟩ := h; rfl
  obtain ⟨p, x, rfl, hp, q⟩ := h
  have SP : SqT K H p (.str (nm x) :: (ns x).map V.int) := SqT.of hp
  refine ⟨_, (@pss_one _ _ _ (ps_ret (pe_and (pe_cmpR op_eq (pe_ix ix_tup (pv 0) pe_int (fun _ _ => rfl)) pe_str (nomark _)) (pe_one (pe_cmpR op_eq (pe_op op_mod (pe_ix ix_tup (pv 0) pe_int (fun _ _ => rfl)) pe_int) pe_int (nomark _)))))), ?_⟩
  try dsimp only [cxK]
  refine ⟨_, rfl, p, _, _, .str (nm x), rfl, rfl, SP, at0m x, rfl, ?_⟩
  by_cases e : nm x = "turn"
  · obtain ⟨a, j, rfl⟩ := turn_of e
    exact ⟨_, rfl, decI (fun _ => ⟨_, rfl, p, _, _, .int j, rfl, rfl, SP, k2, _, _, rfl, rfl, (by show (0 : Int) < _; decide), rfl, q⟩) (fun z => absurd rfl z)⟩
  · refine ⟨_, rfl, decI (fun z => absurd (V.str.inj z) e) (fun _ => ?_)⟩
    rw [odd_not e] at q
    exact q
theorem sc_isbr : FnScope ["move"] ["move"] (defScope (top 35)) := ⟨rfl, rfl, rfl, by decide +kernel, rfl, by decide +kernel, by decide +kernel⟩
theorem ok_isbr (F : FunAt K "is_borne" (top 35) .none) (X : K.In h) (G : h.Ns mainGlobals mg) (c_is_odd_turn : Cal P w K mg base k "is_odd_turn" ["move"] spOdd) : Cal P w K mg base (k + 1) "is_borne" ["move"] spIsBr := by
  have nd := sc_isbr.nd
  refine F.cal X G sc_isbr (bnd1 fun _ _ _ _ _ _ _ => rfl) (fun vs H Q E h => ?_) (fun f cdv A outer s H vs Q E hr h => ?_)
  · obtain ⟨p, x, rfl, _⟩ := h; rfl
  obtain ⟨p, x, rfl, hp, q⟩ := h
  have SP : SqT K H p (.str (nm x) :: (ns x).map V.int) := SqT.of hp
  refine ⟨_, (@pss_one _ _ _ (ps_ret (pe_and (pe_cmpR op_ne (pe_ix ix_tup (pv 0) pe_int (fun _ _ => rfl)) pe_str (nomark _)) (pe_one (pe_not (pe_cal c_is_odd_turn hr rfl (pa_cons (pv 0) pa_nil))))))), ?_⟩
  try dsimp only [cxK]
  refine ⟨_, rfl, p, _, _, .str (nm x), rfl, rfl, SP, at0m x, rfl, ?_⟩
  by_cases e : nm x = "cross"
  · refine ⟨_, rfl, nblI (fun z => absurd (by rw [e]) (of_decide_eq_false z)) (fun _ => ?_)⟩
    rw [br_cross e] at q
    exact q
  · refine ⟨_, rfl, nblI (fun _ => ?_) (fun z => absurd (V.str.inj (of_decide_eq_true z)) e)⟩
    refine ⟨_, rfl, p, x, rfl, hp, _, rfl, ?_⟩
    rw [br_not e] at q
    exact q
theorem sc_borne : FnScope ["row", "place", "move"] ["row"] (defScope (top 34)) := ⟨rfl, rfl, rfl, by decide +kernel, rfl, by decide +kernel, by decide +kernel⟩
theorem ok_borne (F : FunAt K "borne" (top 34) .none) (X : K.In h) (G : h.Ns mainGlobals mg) (B : Bs mg) (c_is_borne : Cal P w K mg base k "is_borne" ["move"] spIsBr) : Cal P w K mg base (k + 1) "borne" ["row"] spBorne := by
  have nd := sc_borne.nd
  refine F.cal X G sc_borne (bnd1 fun _ _ _ _ _ _ _ => rfl) (fun vs H Q E h => ?_) (fun f cdv A outer s H vs Q E hr h => ?_)
  · obtain ⟨l, row, rfl, _⟩ := h; rfl
  obtain ⟨l, row, rfl, ⟨ps, hl, hrow⟩, l200, kq⟩ := h
  have SL : SqL K H l (ps.map V.ref) := SqL.of hl
  have pl : ps.length = row.length := by have := rows_len hrow; rw [List.length_map] at this; exact this
  refine ⟨_, (@pss_cons _ _ _ _ _ (ps_for PassesOwn.never rfl (pi_enum rfl B.enumerate (pa_cons (pv 0) pa_nil)) (@pg_tup _ _ _ _ _ _ rfl (@pgs_cons _ _ _ _ _ (@pg_name _ _ 1 _ nd rfl (Or.inl rfl) (by first | exact .inl rfl | exact .inr rfl)) (@pgs_cons _ _ _ _ _ (@pg_name _ _ 2 _ nd rfl (Or.inl rfl) (by first | exact .inl rfl | exact .inr rfl)) pgs_nil rfl) rfl) rfl rfl)
      (@pss_one _ _ _ (ps_if (pt_not (pt_val (pe_cal c_is_borne hr rfl (pa_cons (pv 2) pa_nil))))
        (@pss_one _ _ _ (ps_ret (pv 1)))
        pss_nil)))
    (@pss_one _ _ _ (ps_ret pe_non))), ?_⟩
  try dsimp only [cxK]
  refine ⟨_, rfl, l, _, rfl, SL, for_enum (K := K) (a := l) (xs := ps.map V.ref) (fun i σ H' => Same H H' ∧ (∀ y ∈ row.take i, brB y = true) ∧ ∃ (v1 v2 : Option V), σ = [some (.ref l), v1, v2])
    ⟨Same.refl _, (fun y hy => by rw [List.take_zero] at hy; cases hy), none, none, rfl⟩ (fun i σ H' _ e => e.1.seq SL) ?_ ?_⟩
  · rintro i x σ H1 T hx ⟨S1, hb, v1, v2, rfl⟩ hT
    rw [List.getElem?_map] at hx
    obtain ⟨q, hq, rfl⟩ := Option.map_eq_some_iff.mp hx
    obtain ⟨y, hy, ey⟩ := rows_get hrow hq
    have S2 := S1.trans (same_new hT (.tup [.int i, .ref q]))
    refine ⟨T, _, rfl, SqT.of upd_same, rfl, _, _, rfl, _, _, rfl, rfl, ?_⟩
    refine ⟨_, rfl, q, y, rfl, S2 _ _ ey, _, rfl, nblI (fun z => ?_) (fun z => ?_)⟩
    · have := kq _ S2
      rw [fst_at hb hy z] at this
      exact ⟨_, rfl, this⟩
    · refine ⟨S2, fun u hu => ?_, _, _, rfl⟩
      rw [List.take_add_one, hy, Option.toList_some] at hu
      rcases List.mem_append.mp hu with hu | hu
      · exact hb u hu
      · rw [List.mem_singleton.mp hu]; exact z
  · rintro σ H1 ⟨S1, hb, v1, v2, rfl⟩
    rw [List.length_map, pl, List.take_length] at hb
    have := kq _ S1
    rw [fst_none hb] at this
    exact this
end
end K55S

set_option maxHeartbeats 4000000
namespace K55S
open PySem PySem.Spec PyProof.Rows L2 Ba Am Pc M71
open K73 (top Bs Bd5 ValsK At5 spSpunK vals_push vals_upd Ams ok_spin5)
open M72 (fl sw VOk V4 En sm rowop)
open M75 (Mk mvd mvds Br lay bn bp)
abbrev layW (m : Mk) (f : Nat → A5) (w : Nat) : A5 := spin (f (w ^^^ m.2.1)) ((2 * m.1 + 4 * pc ((w ^^^ m.2.1) &&& m.2.2) : Nat) : Int)
def spMarkK (K : PySem.W.Frag) : Sp := fun vs H Q _ => ∃ (l p : Addr) (ps : List Addr) (f : Nat → A5) (c n M wd : Nat) (m : Mk), vs = [.ref l, .int wd, .ref p] ∧ Bd5 K H l ps f c n M ∧ wd < 2 ^ c ∧ SqT K H p (mkL m) ∧ OkK c m ∧
  ∀ (r : Addr) (H' : Hp), Same H H' → At5 K H' r (spin (f wd) ((2 * m.1 + 4 * pc (wd &&& m.2.2) : Nat) : Int)) → Q (.ref r) H'
def spLayK (K : PySem.W.Frag) : Sp := fun vs H Q _ => ∃ (l p : Addr) (ps : List Addr) (f : Nat → A5) (c n M : Nat) (m : Mk), vs = [.ref l, .ref p] ∧ Bd5 K H l ps f c n M ∧ c ≤ 6 ∧ SqT K H p (mkL m) ∧ OkK c m ∧
  ∀ (r : Addr) (H' : Hp) (qs : List Addr), H r = none → Same H H' → Bd5 K H' r qs (layW m f) c n M → Q (.ref r) H'
theorem lay_vl {c n : Nat} {m : Mk} {F : M72.Bv} {f : Nat → A5} (o : OkK c m) (h : ∀ w, w < 2 ^ c → Vl n (F w) (f w)) : ∀ w, w < 2 ^ c → Vl n (lay m F w) (layW m f w) := by
  intro w hw
  have hx := h (w ^^^ m.2.1) (Nat.xor_lt_two_pow hw o.f)
  have q := hx.rot ((((2 * m.1 + 4 * pc ((w ^^^ m.2.1) &&& m.2.2) : Nat) : Int) % 8).toNat)
  have e : lay m F w = En ((((2 * m.1 + 4 * pc ((w ^^^ m.2.1) &&& m.2.2) : Nat) : Int) % 8).toNat) (F (w ^^^ m.2.1)) := by
    unfold lay
    refine M75.En_eq ?_ _
    have hb : bn (bp ((w ^^^ m.2.1) &&& m.2.2)) = pc ((w ^^^ m.2.1) &&& m.2.2) % 2 := by
      unfold bp bn
      rcases Nat.mod_two_eq_zero_or_one (pc ((w ^^^ m.2.1) &&& m.2.2)) with a | a <;> rw [a] <;> rfl
    rw [hb]
    omega
  rw [e]
  exact q
theorem one_and {x y : Nat} : [V.int (Builtin.bitAnd (x : Int) (y : Int))] = [V.int ((x &&& y : Nat) : Int)] := by rw [and_i]
section
variable {P : Program} {w : World} {K : PySem.W.Frag} {mg : Str → Option Value} {base : Heap} {k : Nat} {h : Heap}
theorem sc_ones : FnScope ["number", "many", "rest"] ["number"] (defScope (top 9)) := ⟨rfl, rfl, rfl, by decide +kernel, rfl, by decide +kernel, by decide +kernel⟩
theorem ok_ones (F : FunAt K "ones" (top 9) .none) (X : K.In h) (G : h.Ns mainGlobals mg) : Cal P w K mg base (k + 1) "ones" ["number"] spOnes := by
  have nd := sc_ones.nd
  refine F.cal X G sc_ones (bnd1 fun _ _ _ _ _ _ _ => rfl) (fun vs H Q E h => ?_) (fun f cdv A outer s H vs Q E hr h => ?_)
  · obtain ⟨n, rfl, _⟩ := h; rfl
  obtain ⟨n, rfl, q⟩ := h
  refine ⟨_, (@pss_cons _ _ _ _ _ (@ps_set _ _ 1 _ _ _ _ nd rfl (Or.inl rfl) pe_int rfl (.inl rfl))
    (@pss_cons _ _ _ _ _ (@ps_set _ _ 2 _ _ _ _ nd rfl (Or.inl rfl) (pv 0) rfl (.inl rfl))
    (@pss_cons _ _ _ _ _ (ps_while PassesOwn.never (pt_cmpR op_ne (pv 2) pe_int (nomark _))
      (@pss_cons _ _ _ _ _ (@ps_set _ _ 2 _ _ _ _ nd rfl (Or.inl rfl) (pe_op op_and (pv 2) (pe_op op_sub (pv 2) pe_int)) rfl (.inl rfl))
      (@pss_one _ _ _ (@ps_set _ _ 1 _ _ _ _ nd rfl (Or.inl rfl) (pe_op op_add (pv 1) pe_int) rfl (.inl rfl)))))
    (@pss_one _ _ _ (ps_ret (pv 1)))))), ?_⟩
  try dsimp only [cxK]
  refine ⟨_, rfl, fun m σ H' => H' = H ∧ ∃ j r : Nat, m = pc r ∧ j + pc r = pc n ∧ σ = [some (.int n), some (.int j), some (.int r)], ⟨_, rfl, 0, n, rfl, Nat.zero_add _, rfl⟩, ?_⟩
  rintro m σ H' ⟨rfl, j, r, rfl, hj, rfl⟩
  refine ⟨_, rfl, rfl, _, rfl, neI (fun hr0 => ?_) (fun hr0 => ?_)⟩
  · have r0 : r ≠ 0 := by omega
    have e := pc_drop (r + 1) r (by omega) r0
    refine ⟨_, fun σ' H' x => x, ?_⟩
    refine ⟨_, rfl, _, rfl, _, _, rfl, rfl, _, _, rfl, rfl, ?_⟩
    refine ⟨_, rfl, _, _, rfl, rfl, ⟨pc (r &&& (r - 1)), by omega, rfl, j + 1, r &&& (r - 1), rfl, by omega, ?_⟩⟩
    have e2 : Builtin.bitAnd (r : Int) ((r : Int) - 1) = ((r &&& (r - 1) : Nat) : Int) := by rw [show (r : Int) - 1 = ((r - 1 : Nat) : Int) by omega, and_i]
    show [some (V.int n), some (V.int ((j : Int) + 1)), some (V.int (Builtin.bitAnd (r : Int) ((r : Int) - 1)))] = _
    rw [e2]
    rfl
  · have r0 : r = 0 := by omega
    subst r0
    rw [pc_zero, Nat.add_zero] at hj
    subst hj
    exact ⟨_, rfl, q⟩

theorem sc_smark : FnScope ["board", "word", "mark"] ["board", "word", "mark"] (defScope (top 21)) := ⟨rfl, rfl, rfl, by decide +kernel, rfl, by decide +kernel, by decide +kernel⟩
theorem ok_smark (F : FunAt K "spun_by_mark" (top 21) .none) (X : K.In h) (G : h.Ns mainGlobals mg) (c_spun : Cal P w K mg base k "spun" ["one", "k"] (spSpunK K)) (c_ones : Cal P w K mg base k "ones" ["number"] spOnes) : Cal P w K mg base (k + 1) "spun_by_mark" ["board", "word", "mark"] (spMarkK K) := by
  have nd := sc_smark.nd
  refine F.cal X G sc_smark (bnd3 fun _ _ _ _ _ _ _ _ _ => rfl) (fun vs H Q E h => ?_) (fun f cdv A outer s H vs Q E hr h => ?_)
  · obtain ⟨l, p, ps, f, c, n, M, wd, m, rfl, _⟩ := h; rfl
  obtain ⟨l, p, ps, f, c, n, M, wd, ⟨k, fl, s⟩, rfl, BD, hw, S, o, kq⟩ := h
  have k4 := o.k
  obtain ⟨q, _, hq, ae⟩ := BD.at hw
  refine ⟨_, (@pss_one _ _ _ (ps_ret (pe_cal c_spun hr rfl (pa_cons (pe_ix ix_list (pv 0) (pv 1) (fun _ _ => rfl)) (pa_cons (pe_op op_add (pe_op op_mul pe_int (pe_ix ix_tup (pv 2) pe_int (fun _ _ => rfl))) (pe_op op_mul pe_int (pe_cal c_ones hr rfl (pa_cons (pe_op op_and (pv 1) (pe_ix ix_tup (pv 2) pe_int (fun _ _ => rfl))) pa_nil)))) pa_nil))))), ?_⟩
  try dsimp only [cxK]
  refine ⟨_, rfl, _, rfl, l, _, _, _, rfl, rfl, SqL.of BD.lst, ae, ?_⟩
  refine ⟨_, rfl, p, _, _, _, rfl, rfl, S, k0, _, _, rfl, rfl, .inl ⟨by decide, by decide⟩, _, rfl, _, rfl, p, _, _, _, rfl, rfl, S, k2, _, _, rfl, rfl, wd &&& s, one_and, _, _, rfl, rfl, .inl ⟨by decide, by decide⟩, _, _, rfl, rfl, ?_⟩
  refine ⟨q, (f wd).1.1, (f wd).1.2.1, (f wd).1.2.2.1, (f wd).1.2.2.2, (f wd).2, _, rfl, hq, fun r H' S' e' => kq r H' S' ?_⟩
  have e : (2 * (k : Int) + 4 * (pc (wd &&& s) : Int)) = ((2 * k + 4 * pc (wd &&& s) : Nat) : Int) := by omega
  rw [← e]
  exact e'
theorem sc_laid : FnScope ["board", "mark"] ["board", "mark"] (defScope (top 20)) := ⟨rfl, rfl, rfl, by decide +kernel, rfl, by decide +kernel, by decide +kernel⟩
theorem ok_laid (F : FunAt K "laid_on" (top 20) .none) (X : K.In h) (G : h.Ns mainGlobals mg) (B : Bs mg) (c_spun_by_mark : Cal P w K mg base k "spun_by_mark" ["board", "word", "mark"] (spMarkK K)) : Cal P w K mg base (k + 1) "laid_on" ["board", "mark"] (spLayK K) := by
  have nd := sc_laid.nd
  refine F.cal X G sc_laid (bnd2 fun _ _ _ _ _ _ _ _ => rfl) (fun vs H Q E h => ?_) (fun f cdv A outer s H vs Q E hr h => ?_)
  · obtain ⟨l, p, ps, f, c, n, M, m, rfl, _⟩ := h; rfl
  obtain ⟨l, p, ps, f, c, n, M, m, rfl, BD, c6, S, o, kq⟩ := h
  have p6 := pow6 c6
  have SL : SqL K H l (ps.map V.ref) := SqL.of BD.lst
  have hlen : (((ps.map V.ref).length : Nat) : Int).toNat = 2 ^ c := by rw [List.length_map, BD.len, Int.toNat_natCast]
  refine ⟨_, (@pss_one _ _ _ (ps_ret (pe_lc rfl (LcOk.of (Nc := ["word", "board", "mark"]) (mp := [none, some 0, some 1]) (by kernel_rfl)) (pi_range1 rfl B.range (pa_cons (pe_callB call_len_seq rfl B.len PySem.boot_len (pa_cons (pv 0) pa_nil)) pa_nil)) (fun _ _ _ _ => (pg_name (i := 0) (show (["word", "board", "mark"] : List Str).Nodup by decide +kernel) rfl (Or.inl rfl))) (fun _ _ _ _ => (pe_cal c_spun_by_mark hr rfl (pa_cons (pv 1) (pa_cons (pe_op op_xor (pv 0) (pe_ix ix_tupC (pv 2) pe_int (fun _ _ => rfl))) (pa_cons (pv 2) pa_nil)))))))), ?_⟩
  try dsimp only [cxK]
  refine ⟨_, rfl, l, _, rfl, .inl SL, _, rfl, by rw [List.length_map, BD.len]; omega, by rw [List.length_map, BD.len]; omega, fun acc hacc => ?_⟩
  rw [hlen]
  refine lc_range (n := 2 ^ c) (fr := [some (.ref l), some (.ref p)]) (fun i ys H' => ∃ qs : List Addr, Same H H' ∧ H' acc = some (.lst ys) ∧ ys = qs.map V.ref ∧ qs.length = i ∧ ValsK K H' qs (layW m f)) (t64 p6)
    ⟨[], same_new hacc _, upd_same, rfl, rfl, (fun _ _ z => by cases z)⟩ ?_ ?_
  · rintro i ys H2 N hi hy ⟨qs, S2, a2, rfl, ql, v2⟩ kN
    refine ⟨_, rfl, _, rfl, _, rfl, p, _, _, _, rfl, rfl, S2.tup S, k1, _, _, rfl, rfl, _, rfl, l, p, ps, f, c, n, M, i ^^^ m.2.1, m, ?_, BD.same S2, Nat.xor_lt_two_pow hi o.f, S2.tup S, o, fun r H3 S3 hr3 => ?_⟩
    · show [V.ref l, V.int (Builtin.bitXor (0 + (i : Int)) (m.2.1 : Nat)), V.ref p] = _
      rw [Int.zero_add, xor_i]
    · refine kN (.ref r) H3 (S3 _ _ a2) ⟨qs ++ [r], same_upd (S2.trans S3) hacc, upd_same, by rw [List.map_append]; rfl, by simp [ql], ?_⟩
      have := vals_upd (ys := qs.map V.ref ++ [.ref r]) (xs := qs.map V.ref) (vals_push v2 S3 hr3) (S3 _ _ a2)
      intro j q hj
      have t := this j q hj
      have e : (if j = qs.length then spin (f (i ^^^ m.2.1)) ((2 * m.1 + 4 * pc ((i ^^^ m.2.1) &&& m.2.2) : Nat) : Int) else layW m f j) = layW m f j := by
        by_cases e : j = qs.length
        · rw [if_pos e, e, ql]
        · rw [if_neg e]
      rw [← e]
      exact t
  · rintro ys H2 hy ⟨qs, S2, a2, rfl, ql, v2⟩
    exact kq acc H2 qs hacc S2 ⟨a2, ql, v2, fun i hi => ok_spin5 (BD.ok _ (Nat.xor_lt_two_pow hi o.f))⟩
end
end K55S

set_option maxHeartbeats 4000000
namespace K55S
open PySem PySem.Spec PyProof.Rows L2 Ba Am Pc M71
open K73 (top Bs Bd5 ValsK At5 Ams ok_spin5 Steps spRunK)
open M72 (fl sw VOk V4 En sm rowop)
open M75 (Mk mvd mvds Br lay bn bp)
theorem lay_row {c : Nat} : ∀ {row : List Mv} (F : M72.Bv) (m : Mk), (∀ x ∈ row, VOk c x) → (∀ x ∈ row, Br x) → rowop row (lay m F) = lay (mvds row m) (rowop row F)
  | [], _, _, _, _ => rfl
  | x :: r, F, m, o, b => by
    show rowop r (M72.op x (lay m F)) = lay (mvds r (mvd x m)) (rowop r (M72.op x F))
    rw [M75.thr_one (o x (.head _)).1 (b x (.head _))]
    exact lay_row (row := r) _ _ (fun y hy => o y (.tail _ hy)) (fun y hy => b y (.tail _ hy))
theorem lay_ams {c : Nat} {m : Mk} {f : Nat → A5} (o : OkK c m) (a : Ams c f) : Ams c (layW m f) := fun w hw => K73.amt_rot (a _ (Nat.xor_lt_two_pow hw o.f)) _
theorem gone {c N : Nat} (hc : c ≤ 6) {row : List Mv} {f g g' : Nat → A5} {m : Mk} (o : OkK c m) (ok : ∀ x ∈ row, VOk c x) (br : ∀ x ∈ row, Br x) (af : Ams c f) (le : ∀ w, w < 2 ^ c → (f w).2 ≤ (N : Int))
    (s1 : Steps c (row.map gm) f g) (s2 : Steps c (row.map gm) (layW m f) g') : ∀ w, w < 2 ^ c → g' w = layW (mvds row m) g w := by
  intro w hw
  have st : ∀ w, w < 2 ^ c → Vl N ((fun w => sm (2 ^ (N - (f w).2.toNat)) (f w).1) w) (f w) := fun w hw => Vl.of (af w hw).nn (le w hw)
  obtain ⟨h1, a1⟩ := steps_vl hc ok af st s1
  obtain ⟨h2, a2⟩ := steps_vl hc ok (lay_ams o af) (lay_vl o st) s2
  have og := mvds_ok ok o
  have q1 := lay_vl og h1 w hw
  have q2 := h2 w hw
  rw [lay_row _ _ ok br] at q2
  exact q2.same q1 (a2 w hw) (lay_ams og a1 w hw)
/-! evenness of marks stays -/
def spRowsM (K : PySem.W.Frag) : Sp := fun vs H Q _ => ∃ (l lr : Addr) (ps : List Addr) (ms : List Mk) (row : List Mv) (c : Nat), vs = [.ref l, .ref lr] ∧ SqL K H l (ps.map V.ref) ∧ Paired (fun p m => SqT K H p (mkL m)) ps ms ∧ ms.length ≤ 200 ∧ RowAt H lr row ∧ (∀ m ∈ ms, OkK c m) ∧ c ≤ 6 ∧ (∀ x ∈ row, VOk c x) ∧ (∀ x ∈ row, Br x) ∧ row.length ≤ 200 ∧
  ∀ (r : Addr) (H' : Hp) (qs : List Addr), H r = none → Same H H' → H' r = some (.lst (qs.map V.ref)) → Paired (fun p m => SqT K H' p (mkL m)) qs (ms.map (mvds row)) → Q (.ref r) H'
def spChk : Sp := fun vs H Q _ => ∃ (l : Addr) (row : List Mv), vs = [.ref l] ∧ RowAt H l row ∧ row.length ≤ 200 ∧ (∀ x ∈ row, brB x = true) ∧ ∀ H', Same H H' → Q .non H'
theorem br_all {c : Nat} {row : List Mv} (ok : ∀ x ∈ row, VOk c x) (br : ∀ x ∈ row, Br x) : ∀ x ∈ row, brB x = true := fun x hx => (br_iff (ok x hx).1).mpr (br x hx)
theorem pm_len {α : Type} {F : Addr → α → Prop} : ∀ {ps : List Addr} {ms : List α}, Paired F ps ms → ps.length = ms.length
  | [], [], .nil => rfl
  | _ :: _, _ :: _, .cons _ r => by rw [List.length_cons, List.length_cons, pm_len r]
theorem pm_get {α : Type} {F : Addr → α → Prop} : ∀ {ps : List Addr} {ms : List α} {i : Nat} {p : Addr}, Paired F ps ms → ps[i]? = some p → ∃ m, ms[i]? = some m ∧ F p m
  | p' :: ps, m :: ms, 0, p, .cons a r, h => by
    have : p' = p := by simpa using h
    subst this
    exact ⟨m, rfl, a⟩
  | p' :: ps, m :: ms, i + 1, p, .cons a r, h => by
    obtain ⟨m', b, c⟩ := pm_get (ps := ps) (ms := ms) (i := i) (p := p) r (by simpa using h)
    exact ⟨m', by simpa using b, c⟩
theorem pm_snoc {α : Type} {F : Addr → α → Prop} {a : Addr} {b : α} : ∀ {l : List Addr} {m : List α}, Paired F l m → F a b → Paired F (l ++ [a]) (m ++ [b])
  | _, _, .nil, h => .cons h .nil
  | _, _, .cons x r, h => .cons x (pm_snoc r h)
theorem pm_imp {α : Type} {F G : Addr → α → Prop} (f : ∀ a b, F a b → G a b) : ∀ {l : List Addr} {m : List α}, Paired F l m → Paired G l m
  | _, _, .nil => .nil
  | _, _, .cons x r => .cons (f _ _ x) (pm_imp f r)
theorem sqT_upd {K : PySem.W.Frag} {H : Hp} {p l : Addr} {zs : List V} {xs ys : List V} (h : SqT K H p zs) (e : H l = some (.lst xs)) : SqT K (upd H l (.lst ys)) p zs := by
  rcases h with h | h
  · left
    rcases h with h | ⟨o, h⟩
    · exact .inl (by rw [upd_ne (ne_of h e (by intro z; cases z))]; exact h)
    · exact .inr ⟨o, by rw [upd_ne (ne_of h e (by intro z; cases z))]; exact h⟩
  · exact .inr h
section
variable {P : Program} {w : World} {K : PySem.W.Frag} {mg : Str → Option Value} {base : Heap} {k : Nat} {h : Heap}
theorem sc_chk : FnScope ["row", "place"] ["row"] (defScope (top 38)) := ⟨rfl, rfl, rfl, by decide +kernel, rfl, by decide +kernel, by decide +kernel⟩
theorem ok_chk (F : FunAt K "check_borne" (top 38) .none) (X : K.In h) (G : h.Ns mainGlobals mg) (c_borne : Cal P w K mg base k "borne" ["row"] spBorne) : Cal P w K mg base (k + 1) "check_borne" ["row"] spChk := by
  have nd := sc_chk.nd
  refine F.cal X G sc_chk (bnd1 fun _ _ _ _ _ _ _ => rfl) (fun vs H Q E h => ?_) (fun f cdv A outer s H vs Q E hr h => ?_)
  · obtain ⟨l, row, rfl, _⟩ := h; rfl
  obtain ⟨l, row, rfl, R, l200, br, kq⟩ := h
  refine ⟨_, (@pss_cons _ _ _ _ _ (@ps_set _ _ 1 _ _ _ _ nd rfl (Or.inl rfl) (pe_cal c_borne hr rfl (pa_cons (pv 0) pa_nil)) rfl (.inl rfl))
    (@pss_one _ _ _ (ps_if (pt_cmpR op_notN (pv 1) pe_non (nomark _))
      (@pss_one _ _ _ ps_never)
      pss_nil))), ?_⟩
  try dsimp only [cxK]
  refine ⟨_, rfl, l, row, rfl, R, l200, fun H1 S1 => ?_⟩
  rw [fst_none br]
  refine ⟨_, rfl, ?_⟩
  exact ⟨rfl, _, rfl, nblI (fun z => absurd rfl (of_decide_eq_false z)) (fun _ => kq H1 S1)⟩
theorem sc_mrows : FnScope ["rows", "row"] ["rows", "row"] (defScope (top 37)) := ⟨rfl, rfl, rfl, by decide +kernel, rfl, by decide +kernel, by decide +kernel⟩
theorem ok_mrows (F : FunAt K "moved_rows" (top 37) .none) (X : K.In h) (G : h.Ns mainGlobals mg) (B : Bs mg) (c_check_borne : Cal P w K mg base k "check_borne" ["row"] spChk) (c_moved_through : Cal P w K mg base k "moved_through" ["mark", "row"] (spThrough K)) : Cal P w K mg base (k + 1) "moved_rows" ["rows", "row"] (spRowsM K) := by
  have nd := sc_mrows.nd
  refine F.cal X G sc_mrows (bnd2 fun _ _ _ _ _ _ _ _ => rfl) (fun vs H Q E h => ?_) (fun f cdv A outer s H vs Q E hr h => ?_)
  · obtain ⟨l, lr, ps, ms, row, c, rfl, _⟩ := h; rfl
  obtain ⟨l, lr, ps, ms, row, c, rfl, SL, PM, lm, R, o, c6, ok, br, l200, kq⟩ := h
  refine ⟨_, (@pss_cons _ _ _ _ _ (ps_expr (pe_cal c_check_borne hr rfl (pa_cons (pv 1) pa_nil)))
    (@pss_one _ _ _ (ps_ret (pe_lc rfl (LcOk.of (Nc := ["mark", "row"]) (mp := [none, some 1]) (by kernel_rfl)) (pi_list (pv 0)) (fun _ _ _ _ => (pg_name (i := 0) (show (["mark", "row"] : List Str).Nodup by decide +kernel) rfl (Or.inl rfl))) (fun _ _ _ _ => (pe_cal c_moved_through hr rfl (pa_cons (pv 0) (pa_cons (pv 1) pa_nil)))))))), ?_⟩
  try dsimp only [cxK]
  refine ⟨_, rfl, lr, row, rfl, R, l200, br_all ok br, fun H1 S1 => ?_⟩
  have pl := pm_len PM
  refine ⟨_, rfl, l, rfl, ⟨_, S1.seq SL⟩, fun acc hacc => ?_⟩
  refine lc_list (K := K) (a := l) (xs := ps.map V.ref) (fr := [some (.ref lr)]) (fun i ys H' => ∃ qs : List Addr, Same H1 H' ∧ H' acc = some (.lst ys) ∧ ys = qs.map V.ref ∧ Paired (fun p m => SqT K H' p (mkL m)) qs ((ms.take i).map (mvds row))) (by rw [List.length_map]; exact Nat.le_trans (show ps.length ≤ 200 by omega) (by decide))
    ⟨[], same_new hacc _, upd_same, rfl, by rw [List.take_zero]; exact .nil⟩ (fun i ys H' ⟨_, e, _⟩ => (S1.trans e).seq SL) ?_ ?_
  · rintro i x ys H2 N hx hy ⟨qs, S2, a2, rfl, P2⟩ kN
    rw [List.getElem?_map] at hx
    obtain ⟨q, hq, rfl⟩ := Option.map_eq_some_iff.mp hx
    obtain ⟨m, hm, em⟩ := pm_get PM hq
    have S12 := S1.trans S2
    refine ⟨_, rfl, _, rfl, q, lr, m, row, c, rfl, S12.tup em, R.same S12, o m (List.mem_of_getElem? hm), c6, ok, br, l200, fun r H3 S3 h3 => ?_⟩
    refine kN (.ref r) H3 (S3 _ _ a2) ⟨qs ++ [r], same_upd (S2.trans S3) hacc, upd_same, by rw [List.map_append]; rfl, ?_⟩
    rw [List.take_add_one, hm, Option.toList_some, List.map_append]
    exact pm_snoc (pm_imp (fun _ _ e => sqT_upd (S3.tup e) (S3 _ _ a2)) P2) (sqT_upd h3 (S3 _ _ a2))
  · rintro ys H2 hy ⟨qs, S2, a2, rfl, P2⟩
    rw [List.length_map, pl, List.take_length] at P2
    have fr : H acc = none := fresh_of S1 hacc
    exact kq acc H2 qs fr (S1.trans S2) a2 P2
end
end K55S

set_option maxHeartbeats 1000000
/-! a mark that goes through a move stays even, or odd -/
namespace M75
open M71 M71.Mv M72 Pc
end M75

set_option maxHeartbeats 4000000
namespace K55S
open PySem PySem.Spec PyProof.Rows L2 Ba Am Pc M71
open K73 (top Bs Bd5 ValsK At5 Ams ok_spin5 Steps spRunK)
open M72 (fl sw VOk V4 En sm rowop)
open M75 (Mk mvd mvds Br lay bn bp)
theorem rows5k {K : PySem.W.Frag} {H : Hp} : ∀ {ps : List Addr} {f : Nat → A5}, ValsK K H ps f → Rows5K K H ps ((List.range ps.length).map fun i => l5 (f i))
  | [], f, _ => .nil
  | p :: ps, f, v => by
    have r := rows5k (ps := ps) (f := fun i => f (i + 1)) fun i q hq => v (i + 1) q (by simpa using hq)
    rw [List.length_cons, List.range_succ_eq_map, List.map_cons, List.map_map]
    exact .cons (v 0 p rfl) r
theorem boards_same {c : Nat} {g g' : Nat → A5} (h : ∀ w, w < 2 ^ c → g w = g' w) : ((List.range (2 ^ c)).map fun i => l5 (g i)) = (List.range (2 ^ c)).map fun i => l5 (g' i) :=
  List.map_congr_left fun i hi => by rw [h i (List.mem_range.mp hi)]
theorem rows_b {K : PySem.W.Frag} {H : Hp} {l : Addr} {ps : List Addr} {f : Nat → A5} {c n m : Nat} (b : Bd5 K H l ps f c n m) : Rows5K K H ps ((List.range (2 ^ c)).map fun i => l5 (f i)) := by
  have := rows5k b.vals
  rw [b.len] at this
  exact this
section
variable {P : Program} {w : World} {K : PySem.W.Frag} {mg : Str → Option Value} {base : Heap} {k : Nat} {h : Heap}
theorem sc_whole : FnScope ["_law_found"] ["_law_found"] (defScope (top 53)) := ⟨rfl, rfl, rfl, by decide +kernel, rfl, by decide +kernel, by decide +kernel⟩
theorem ok_whole (F : FunAt K "_law_whole" (top 53) .none) (X : K.In h) (G : h.Ns mainGlobals mg) (B : Bs mg) : Cal P w K mg base (k + 1) "_law_whole" ["_law_found"] spWhole := by
  have nd := sc_whole.nd
  refine F.cal X G sc_whole (bnd1 fun _ _ _ _ _ _ _ => rfl) (fun vs H Q E h => ?_) (fun f cdv A outer s H vs Q E hr h => ?_)
  · obtain ⟨i, rfl, _⟩ := h; rfl
  obtain ⟨i, rfl, q⟩ := h
  refine ⟨_, (@pss_one _ _ _ (ps_ret (pe_and (pe_callB call_isinst rfl B.isinstance boot_isinstance (pa_cons (pv 0) (pa_cons (pe_bltn (v := .ty "int") rfl B.int boot_int rfl) pa_nil))) (pe_one (pe_not (pe_callB call_isinst rfl B.isinstance boot_isinstance (pa_cons (pv 0) (pa_cons (pe_bltn (v := .ty "bool") rfl B.bool boot_bool rfl) pa_nil)))))))), ?_⟩
  refine ⟨_, rfl, _, _, _, true, rfl, TyOf.int i, kit_ii K, _, rfl, iteT ?_⟩
  exact ⟨_, rfl, _, _, _, false, rfl, TyOf.int i, kit_ib K, _, rfl, q⟩

end
end K55S

set_option maxHeartbeats 4000000
/-! isinstance of a tuple that may be kept -/
namespace L2
open PySem PySem.Spec PyProof.Rows
section
variable {X : Cx}
theorem call_isinstT : CallR X (.builtin "isinstance") (fun xs H Q => ∃ a vs T b, xs = [.ref a, .ty T] ∧ SqT X.K H a vs ∧ PySem.W.kitOne X.K (.type "tuple") (.type T) = some b ∧ Q (.bl b) H) := by
  intro pins s σ H xs us Q I r h
  obtain ⟨a, vs, T, b, rfl, hs, e, q⟩ := h
  obtain ⟨u, v, rfl, ru, rv⟩ := r.two
  cases rv
  cases ru
  obtain ⟨its, _, ⟨o, h1, h2, _⟩, _⟩ := I.tuple hs
  exact PySem.W.kia_one PySem.W.kitx_tuple I.kIn ⟨o, h1, h2⟩ e (fun z => nomatch z) fun tk => ⟨.bl b, H, I.tok tk, rfl, q⟩
end
end L2

set_option maxHeartbeats 4000000
namespace K55S
open PySem PySem.Spec PyProof.Rows L2 Ba Am Pc M71
open K73 (top Bs)
open M72 (VOk)
open M75 (Mk mvd mvds Br)
def spIsMark (K : PySem.W.Frag) : Sp := fun vs H Q _ => ∃ (p : Addr) (m : Mk) (c : Nat), vs = [.ref p, .int c] ∧ SqT K H p (mkL m) ∧ OkK c m ∧ c ≤ 6 ∧ Q (.bl true) H
def spForeign : Sp := fun vs H Q _ => ∃ (n : Int) (c : Nat), vs = [.int c, .int n] ∧ 0 ≤ n ∧ 1 ≤ c ∧ c ≤ 6 ∧ ∀ (t : Addr) (H' : Hp) (m : Mv), Same H H' → H' t = some (mT (mm m)) → VOk c m → brB m = false → Q (.ref t) H'
theorem three_mk {c n : Int} (n0 : 0 ≤ n) (c2 : 2 < c) (c6 : c ≤ 6) : let on := n / 2 % c; let st := 1 + n / 12 % (c - 1); let ot := (on + st) % c; let th := (on + st % (c - 1) + 1) % c
    (0 ≤ on ∧ on < c) ∧ (0 ≤ ot ∧ ot < c) ∧ (0 ≤ th ∧ th < c) ∧ on ≠ ot ∧ on ≠ th ∧ ot ≠ th := by
  have ha0 : 0 ≤ n / 2 % c := Int.emod_nonneg _ (by omega)
  have ha1 : n / 2 % c < c := Int.emod_lt_of_pos _ (by omega)
  have hb0 : 0 ≤ n / 12 % (c - 1) := Int.emod_nonneg _ (by omega)
  have hb1 : n / 12 % (c - 1) < c - 1 := Int.emod_lt_of_pos _ (by omega)
  simp only []
  generalize n / 2 % c = a at *
  generalize n / 12 % (c - 1) = b at *
  have : c = 3 ∨ c = 4 ∨ c = 5 ∨ c = 6 := by omega
  rcases this with rfl | rfl | rfl | rfl
  · rw [show (3 : Int) - 1 = 2 by decide] at *; omega
  · rw [show (4 : Int) - 1 = 3 by decide] at *; omega
  · rw [show (5 : Int) - 1 = 4 by decide] at *; omega
  · rw [show (6 : Int) - 1 = 5 by decide] at *; omega
section
variable {P : Program} {w : World} {K : PySem.W.Frag} {mg : Str → Option Value} {base : Heap} {k : Nat} {h : Heap}
theorem sc_ismark : FnScope ["_law_found", "_law_cells"] ["_law_found", "_law_cells"] (defScope (top 61)) := ⟨rfl, rfl, rfl, by decide +kernel, rfl, by decide +kernel, by decide +kernel⟩
theorem ok_ismark (F : FunAt K "_law_is_mark" (top 61) .none) (X : K.In h) (G : h.Ns mainGlobals mg) (B : Bs mg) (c__law_whole : Cal P w K mg base k "_law_whole" ["_law_found"] spWhole) : Cal P w K mg base (k + 1) "_law_is_mark" ["_law_found", "_law_cells"] (spIsMark K) := by
  have nd := sc_ismark.nd
  refine F.cal X G sc_ismark (bnd2 fun _ _ _ _ _ _ _ _ => rfl) (fun vs H Q E h => ?_) (fun f cdv A outer s H vs Q E hr h => ?_)
  · obtain ⟨p, m, c, rfl, _⟩ := h; rfl
  obtain ⟨p, ⟨k, f, s⟩, c, rfl, S, o, c6, q⟩ := h
  obtain ⟨hk, hf, hs⟩ := o
  have hk : k < 4 := hk
  have hf : f < 2 ^ c := hf
  have hs : s < 2 ^ c := hs
  have hN : (1 : Int) * 2 ^ ((c : Int).toNat) = ((2 ^ c : Nat) : Int) := ipow c
  refine ⟨_, (@pss_cons _ _ _ _ _ (ps_if (PW.pt (pw_or (pt_not (pt_val (pe_callB call_isinstT rfl B.isinstance boot_isinstance (pa_cons (pv 0) (pa_cons (pe_bltn (v := .ty "tuple") rfl B.tuple boot_tuple rfl) pa_nil))))) (pw_or1 (pt_cmpR op_ne (pe_callB call_len_seq rfl B.len PySem.boot_len (pa_cons (pv 0) pa_nil)) pe_int (nomark _)))))
      (@pss_one _ _ _ (ps_ret pe_bl))
      pss_nil)
    (@pss_cons _ _ _ _ _ (ps_if (PW.pt (pw_or (pt_not (pt_val (pe_cal c__law_whole hr rfl (pa_cons (pe_ix ix_tup (pv 0) pe_int (fun _ _ => rfl)) pa_nil)))) (pw_or (pt_not (pt_val (pe_cal c__law_whole hr rfl (pa_cons (pe_ix ix_tup (pv 0) pe_int (fun _ _ => rfl)) pa_nil)))) (pw_or1 (pt_not (pt_val (pe_cal c__law_whole hr rfl (pa_cons (pe_ix ix_tup (pv 0) pe_int (fun _ _ => rfl)) pa_nil))))))))
      (@pss_one _ _ _ (ps_ret pe_bl))
      pss_nil)
    (@pss_cons _ _ _ _ _ (ps_if (PW.pt (pw_or (pt_cmpR op_lt (pe_ix ix_tup (pv 0) pe_int (fun _ _ => rfl)) pe_int (nomark _)) (pw_or (pt_cmpR op_gt (pe_ix ix_tup (pv 0) pe_int (fun _ _ => rfl)) pe_int (nomark _)) (pw_or1 (pt_cmpR op_lt (pe_callB (call_min2 rfl) rfl B.min boot_min (pa_cons (pe_ix ix_tup (pv 0) pe_int (fun _ _ => rfl)) (pa_cons (pe_ix ix_tup (pv 0) pe_int (fun _ _ => rfl)) pa_nil))) pe_int (nomark _))))))
      (@pss_one _ _ _ (ps_ret pe_bl))
      pss_nil)
    (@pss_one _ _ _ (ps_ret (pe_cmpR op_lt (pe_callB (call_max2 rfl) rfl B.max boot_max (pa_cons (pe_ix ix_tup (pv 0) pe_int (fun _ _ => rfl)) (pa_cons (pe_ix ix_tup (pv 0) pe_int (fun _ _ => rfl)) pa_nil))) (pe_op op_shlS pe_int (pv 1)) (nomark _))))))), ?_⟩
  try dsimp only [cxK]
  refine ⟨_, rfl, p, _, _, true, rfl, S, kit_tt K, _, rfl, iteF ⟨_, rfl, p, _, rfl, .inr S, rfl, _, rfl, neI (fun z => absurd rfl z) (fun _ => ?_)⟩⟩
  refine ⟨_, rfl, p, _, _, .int k, rfl, rfl, S, k0, k, rfl, _, rfl, iteF ⟨_, rfl, p, _, _, .int f, rfl, rfl, S, k1, f, rfl, _, rfl, iteF ⟨_, rfl, p, _, _, .int s, rfl, rfl, S, k2, s, rfl, _, rfl, iteF ?_⟩⟩⟩
  refine ⟨_, rfl, p, _, _, .int k, rfl, rfl, S, k0, _, _, rfl, rfl, _, rfl, decI (fun z => absurd z (by omega)) (fun _ => ?_)⟩
  refine ⟨_, rfl, p, _, _, .int k, rfl, rfl, S, k0, _, _, rfl, rfl, _, rfl, decI (fun z => absurd z (by omega)) (fun _ => ?_)⟩
  refine ⟨_, rfl, p, _, _, .int f, rfl, rfl, S, k1, _, rfl, p, _, _, .int s, rfl, rfl, S, k2, _, _, rfl, _, _, rfl, rfl, _, rfl, decI (fun z => absurd z (by split <;> omega)) (fun _ => ?_)⟩
  refine ⟨_, rfl, p, _, _, .int f, rfl, rfl, S, k1, _, rfl, p, _, _, .int s, rfl, rfl, S, k2, _, _, rfl, _, rfl, _, _, rfl, rfl, ⟨1, sz1, by omega, by omega⟩, _, _, rfl, rfl, ?_⟩
  have e : decide ((if (s : Int) > (f : Int) then (s : Int) else (f : Int)) < 1 * 2 ^ ((c : Int).toNat)) = true := by
    rw [hN]
    exact decide_eq_true (by split <;> omega)
  show Q (.bl (decide ((if (s : Int) > (f : Int) then (s : Int) else (f : Int)) < 1 * 2 ^ ((c : Int).toNat)))) H
  rw [e]
  exact q
end
end K55S

/-! a mark behind a move and its back move is the mark; the plain marks -/
namespace M77
open M71 Mv M72 M75
def bk : Mv → Mv
  | .turn a j => .turn a (8 - j)
  | x => x
theorem mod4 {k : Nat} (h : k < 4) : ((k + 2) % 4 + 2) % 4 = k := by omega
theorem mvd_bk {x : Mv} (o : Ok x) (b : Br x) {m : Mk} (h : m.1 < 4) : mvd (bk x) (mvd x m) = m := by
  obtain ⟨k, f, s⟩ := m
  have h : k < 4 := h
  cases x with
  | flip a =>
    show (if s.testBit a.toNat then ((if s.testBit a.toNat then (k + 2) % 4 else k) + 2) % 4 else (if s.testBit a.toNat then (k + 2) % 4 else k), f, s) = _
    by_cases c : s.testBit a.toNat = true
    · simp only [c, if_true]; rw [mod4 h]
    · simp only [c, if_false]; simp
  | mix a =>
    by_cases c : f.testBit a.toNat = true <;> by_cases d : s.testBit a.toNat = true <;> simp [bk, mvd, c, d, bit_fl_eq, M72.fl_fl, mod4 h]
  | turn a j =>
    obtain ⟨a0, j1, j7⟩ : 0 ≤ a ∧ 1 ≤ j ∧ j ≤ 7 := o
    have b : j.toNat % 2 = 0 := b
    have hj : j = 2 ∨ j = 4 ∨ j = 6 := by omega
    by_cases c : f.testBit a.toNat = true
    · rcases hj with rfl | rfl | rfl <;> simp [bk, mvd, c, M72.fl_fl] <;> omega
    · simp [bk, mvd, c]
  | iff a b' =>
    obtain ⟨a0, b0, n⟩ : 0 ≤ a ∧ 0 ≤ b' ∧ a ≠ b' := o
    have n' : a.toNat ≠ b'.toNat := by omega
    by_cases c : f.testBit a.toNat = true <;> by_cases d : s.testBit b'.toNat = true <;> simp [bk, mvd, c, d, bit_fl_ne n', bit_fl_ne n'.symm, M72.fl_fl]
  | pair a b' =>
    obtain ⟨a0, b0, n⟩ : 0 ≤ a ∧ 0 ≤ b' ∧ a ≠ b' := o
    have fc : ∀ w, fl (fl w a.toNat) b'.toNat = fl (fl w b'.toNat) a.toNat := fun w => by
      unfold fl
      rw [Nat.xor_assoc, Nat.xor_comm (2 ^ a.toNat), ← Nat.xor_assoc]
    by_cases c : f.testBit a.toNat = true <;> by_cases d : f.testBit b'.toNat = true <;> simp [bk, mvd, c, d, M72.fl_fl, fc, mod4 h]
  | swap a b' =>
    obtain ⟨a0, b0, n⟩ : 0 ≤ a ∧ 0 ≤ b' ∧ a ≠ b' := o
    have n' : a.toNat ≠ b'.toNat := by omega
    simp [bk, mvd, sw_sw n']
  | cross a b' d => exact b.elim
theorem mvds_app : ∀ (r t : List Mv) (m : Mk), mvds (r ++ t) m = mvds t (mvds r m)
  | [], _, _ => rfl
  | x :: r, t, m => mvds_app r t (mvd x m)
theorem bk_ok {c : Nat} {x : Mv} (o : VOk c x) : VOk c (bk x) := by
  cases x with
  | turn a j =>
    obtain ⟨⟨a0, j1, j7⟩, h⟩ := o
    exact ⟨⟨a0, by omega, by omega⟩, h⟩
  | _ => exact o
theorem bk_br {x : Mv} (o : Ok x) (b : Br x) : Br (bk x) := by
  cases x with
  | turn a j =>
    obtain ⟨a0, j1, j7⟩ : 0 ≤ a ∧ 1 ≤ j ∧ j ≤ 7 := o
    have b : j.toNat % 2 = 0 := b
    show (8 - j).toNat % 2 = 0
    omega
  | _ => exact b
/-- the plain marks -/
def pmk : Nat → List Mk
  | 0 => []
  | c + 1 => pmk c ++ [(0, 2 ^ c, 0), (0, 0, 2 ^ c)]
theorem pmk_len : ∀ c, (pmk c).length = 2 * c
  | 0 => rfl
  | c + 1 => by
    show (pmk c ++ _).length = _
    rw [List.length_append, pmk_len c]
    rfl
theorem pmk_get : ∀ {c k : Nat}, k < 2 * c → (pmk c)[k]? = some (if k % 2 = 1 then (0, 0, 2 ^ (k / 2)) else (0, 2 ^ (k / 2), 0))
  | c + 1, k, h => by
    show (pmk c ++ _)[k]? = _
    by_cases hk : k < 2 * c
    · rw [List.getElem?_append_left (by rw [pmk_len]; exact hk)]
      exact pmk_get hk
    · rw [List.getElem?_append_right (by rw [pmk_len]; omega), pmk_len]
      have : k = 2 * c ∨ k = 2 * c + 1 := by omega
      rcases this with rfl | rfl
      · rw [Nat.sub_self, if_neg (by omega), show 2 * c / 2 = c by omega]; rfl
      · rw [show 2 * c + 1 - 2 * c = 1 by omega, if_pos (by omega), show (2 * c + 1) / 2 = c by omega]; rfl
end M77

set_option maxHeartbeats 4000000
/-! an exception leaves a def: what is kept, exactly -/
namespace Fx
open PySem PySem.Spec PyProof.Rows
/-- the exception at e, of class cls, with its entry at T; fl: where it is in flight -/
def Tr (di : Option Addr) (e T : Addr) (cls fl : Value) (h : Heap) : Prop := ∃ oe vs oT ts, h.get? e = some oe ∧ (oe.cls = cls ∧ oe.dict = di) ∧ oe.data = .fields vs ∧ vs[1]? = some (.ref T) ∧ T ≠ e ∧ h.get? T = some oT ∧ oT.data = .fields ts ∧ ts[3]? = some fl ∧ 3 < ts.size
/-- all but the frames fs and the things at xs are as they were; frames up to their slots -/
structure Kp (fs xs : List Addr) (h h' : Heap) : Prop where
  keep : ∀ b o, h.get? b = some o → b ∉ fs → b ∉ xs → h'.get? b = some o
  slot : ∀ b o, h.get? b = some o → b ∉ xs → ∃ sl, h'.get? b = some { o with slots := sl }
  there : ∀ b o, h.get? b = some o → ∃ o', h'.get? b = some o'
/-! what is kept, put together from single changes -/
section
variable {fs xs : List Addr} {h h1 h2 : Heap}
theorem Kp.trans (p : Kp fs xs h h1) (q : Kp fs xs h1 h2) : Kp fs xs h h2 where
  keep := fun b o e n m => q.keep b o (p.keep b o e n m) n m
  slot := fun b o e m => by
    obtain ⟨sl, e1⟩ := p.slot b o e m
    obtain ⟨sl2, e2⟩ := q.slot b _ e1 m
    exact ⟨sl2, e2⟩
  there := fun b o e => by
    obtain ⟨o1, e1⟩ := p.there b o e
    exact q.there b o1 e1
theorem Kp.same (k : ∀ b o, h.get? b = some o → h1.get? b = some o) : Kp fs xs h h1 := ⟨fun b o e _ _ => k b o e, fun b o e _ => ⟨o.slots, k b o e⟩, fun b o e => ⟨o, k b o e⟩⟩
theorem Kp.new (o : Obj) : Kp fs xs h (h.push o) := .same fun _ _ e => Heap.get?_push_of_some _ e
theorem Kp.slots (p : Heap.SlotsOnly fs h h1) : Kp fs xs h h1 where
  keep := fun b o e n _ => (p.2.1 b n).trans e
  slot := fun b o e _ => p.2.2 b o e
  there := fun b o e => let ⟨_, q⟩ := p.2.2 b o e; ⟨_, q⟩
/-- a record's field is written -/
theorem Kp.field {a : Addr} {o : Obj} {vs : Array Value} {f : Array Value → Array Value} (ha : a ∈ xs) (e : h.get? a = some o) (d : o.data = .fields vs) : Kp fs xs h (h.update a (Obj.mapFields f)) := by
  have k : ∀ b u, b ≠ a → h.get? b = some u → (h.update a (Obj.mapFields f)).get? b = some u := fun b u n q => (Heap.get?_update_other _ _ n.symm).trans q
  have at_a := Heap.get?_update_self (Obj.mapFields f) e (Obj.isFreed_of_fields (Obj.data_mapFields d f))
  exact ⟨fun b u q _ m => k b u (fun z => m (z ▸ ha)) q, fun b u q m => ⟨u.slots, k b u (fun z => m (z ▸ ha)) q⟩, fun b u q => (Classical.em (b = a)).elim (fun z => ⟨o.mapFields f, by rw [z]; exact at_a⟩) fun z => ⟨u, k b u z q⟩⟩
/-- what is new is not one of the old -/
theorem Kp.fresh (p : Kp fs xs h h1) {b : Addr} (e : h1.get? b = none) : h.get? b = none := by
  cases q : h.get? b with
  | none => rfl
  | some o => obtain ⟨o', e'⟩ := p.there b o q; rw [e] at e'; cases e'
end
/-- a record with fields -/
def Rec (h : Heap) (a : Addr) (o : Obj) (vs : Array Value) : Prop := h.get? a = some o ∧ o.data = .fields vs
theorem Rec.put {h : Heap} {a : Addr} {o : Obj} {vs : Array Value} (r : Rec h a o vs) (f : Array Value → Array Value) : Rec (h.update a (Obj.mapFields f)) a (o.mapFields f) (f vs) :=
  ⟨Heap.get?_update_self _ r.1 (Obj.isFreed_of_fields (Obj.data_mapFields r.2 f)), Obj.data_mapFields r.2 f⟩
theorem Rec.off {h : Heap} {a b : Addr} {o : Obj} {vs : Array Value} (r : Rec h a o vs) (n : a ≠ b) (f : Obj → Obj) : Rec (h.update b f) a o vs := ⟨(Heap.get?_update_other _ _ n.symm).trans r.1, r.2⟩
theorem put_cls (o : Obj) (f : Array Value → Array Value) : (o.mapFields f).cls = o.cls ∧ (o.mapFields f).dict = o.dict := by
  obtain ⟨c, d, dt, sl⟩ := o
  cases dt <;> exact ⟨rfl, rfl⟩
/-- the exception and its entry, as records -/
theorem Tr.of {h : Heap} {e T : Addr} {oe oT : Obj} {vs ts : Array Value} {cls fl : Value} (r : Rec h e oe vs) (c : oe.cls = cls ∧ oe.dict = di) (r' : Rec h T oT ts) (n : T ≠ e) (v : vs[1]? = some (.ref T)) (t : ts[3]? = some fl) (z : 3 < ts.size) : Tr di e T cls fl h :=
  ⟨oe, vs, oT, ts, r.1, c, r.2, v, n, r'.1, r'.2, t, z⟩
section
variable {M : Model} {A : Around} {E : Value → Shared → Prop} {s : Shared}
/-- the entry is hung on the exception, and its flight is over at once -/
theorem hung {base : Heap} {env : Env} {outer : List Env} {L e : Addr} {oe : Obj} {vs : Array Value} {head : Value} {b : Bool} {xs : List Addr} {Q : Unit → Shared → Prop}
    (ha : A.frames = some (env :: outer)) (hf : s.heap.FunFrames base (env :: outer)) (hl : env.frame = some L) (r : Rec s.heap e oe vs) (hd : oe.dict = di) (two : 1 < vs.size) (he : e ∈ xs)
    (k : ∀ h' T, s.heap.get? T = none → Tr di e T oe.cls .none h' → Kp ((env :: outer).filterMap (·.frame)) xs s.heap h' → Q () { s with heap := h' }) :
    wpAny M A (do let a ← frameOf env; let pl ← entryPlaceOf L b; let t ← EntryCells.newEntry head a .none (rawInt L) .none pl; setField (.ref e) 1 t) (fun _ s' => wpAny M A (setFlight (.ref e) none) Q E s') E s := by
  have nf : e ∉ (env :: outer).filterMap (·.frame) := fun z => by
    obtain ⟨_, o, q, n⟩ := hf.mem z
    exact n vs (Option.some.inj (r.1.symm.trans q) ▸ r.2)
  refine wpAny_bind (wpAny_frameOf_fun ha hf hl fun h1 sl => wpAny_bind (wpAny_entryPlaceOf fun pl place => wpAny_bind ?_))
  have p1 : Kp ((env :: outer).filterMap (·.frame)) xs s.heap h1 := .slots sl
  have r1 : Rec h1 e oe vs := ⟨(sl.2.1 e nf).trans r.1, r.2⟩
  have ne : h1.objs.size ≠ e := Nat.ne_of_gt (Heap.lt_size r1.1)
  have new : s.heap.get? h1.objs.size = none := p1.fresh (Heap.get?_none_of_le (Nat.le_refl _))
  simp only [EntryCells.newEntry, newFields]
  refine wpAny_newObj_type ?_ (place.sizeOk5 _ _ _ _ _)
  obtain ⟨o, ho, ts, d, t3, tz⟩ : ∃ o : Obj, o = { cls := .type "traceback", dict := none, data := .fields ([head, .ref L, .none, rawInt L, .none] ++ (if pl.isEmpty then List.replicate 6 Value.none else pl)).toArray } ∧ ∃ ts : Array Value, o.data = .fields ts ∧ ts[3]? = some (rawInt L) ∧ 3 < ts.size := by
    refine ⟨_, rfl, _, rfl, ?_, ?_⟩
    · rcases place with rfl | ⟨_, _, _, _, _, _, _, rfl⟩ <;> simp
    · simp only [List.size_toArray, List.length_append, List.length_cons, List.length_nil]; omega
  rw [← ho]
  have r2 : Rec (h1.push o) e oe vs := ⟨Heap.get?_push_of_some _ r1.1, r1.2⟩
  have n2 : Rec (h1.push o) h1.objs.size o ts := ⟨Heap.get?_push_size _ (Obj.isFreed_of_fields d), d⟩
  have p2 := p1.trans (Kp.new o)
  refine wpAny_setField r2.1 r2.2 two ?_
  have r3 := r2.put (·.setIfInBounds 1 (Value.ref h1.objs.size))
  have n3 := n2.off ne (Obj.mapFields (·.setIfInBounds 1 (Value.ref h1.objs.size)))
  have p3 := p2.trans (Kp.field (f := (·.setIfInBounds 1 (Value.ref h1.objs.size))) he r2.1 r2.2)
  have v1 : (vs.setIfInBounds 1 (Value.ref h1.objs.size))[1]? = some (.ref h1.objs.size) := by simp [two]
  refine wpAny_setFlight_none r3.1 r3.2 v1 n3.1 n3.2 tz (k _ h1.objs.size new ?_ ?_)
  · have c := put_cls oe (·.setIfInBounds 1 (Value.ref h1.objs.size))
    exact Tr.of (r3.off ne.symm _) ⟨c.1, c.2.trans hd⟩ (n3.put _) ne v1 (by simp [tz]) (by simpa using tz)
  · have q : ∀ b u, b ≠ h1.objs.size → Heap.get? ((h1.push o).update e (Obj.mapFields (·.setIfInBounds 1 (Value.ref h1.objs.size)))) b = some u → Heap.get? (((h1.push o).update e (Obj.mapFields (·.setIfInBounds 1 (Value.ref h1.objs.size)))).update h1.objs.size (Obj.mapFields (·.setIfInBounds 3 .none))) b = some u := fun b u n z => (Heap.get?_update_other _ _ n.symm).trans z
    have old : ∀ b u, s.heap.get? b = some u → b ≠ h1.objs.size := fun b u z w => by rw [w, new] at z; cases z
    exact ⟨fun b u z n m => q b u (old b u z) (p3.keep b u z n m), fun b u z m => let ⟨sl, w⟩ := p3.slot b u z m; ⟨sl, q b _ (old b u z) w⟩, fun b u z => let ⟨u', w⟩ := p3.there b u z; ⟨u', q b u' (old b u z) w⟩⟩
/-- its flight ends: only its entry is written -/
theorem flight {e T : Addr} {cls fl : Value} {Q : Unit → Shared → Prop} (t : Tr di e T cls fl s.heap) (k : ∀ h', Tr di e T cls .none h' → (∀ b, b ≠ T → h'.get? b = s.heap.get? b) → Q () { s with heap := h' }) : wpAny M A (setFlight (.ref e) none) Q E s := by
  obtain ⟨oe, vs, oT, ts, e1, c, e2, v, n, t1, t2, -, z⟩ := t
  have r : Rec s.heap e oe vs := ⟨e1, e2⟩
  have r' : Rec s.heap T oT ts := ⟨t1, t2⟩
  exact wpAny_setFlight_none e1 e2 v t1 t2 z (k _ (Tr.of (r.off n.symm _) c (r'.put _) n v (by simp [z]) (by simpa using z)) fun b m => Heap.get?_update_other _ _ m.symm)
/-- an exception leaves the def that raised it -/
theorem leave_first {base : Heap} {env : Env} {outer : List Env} {L e : Addr} {oe : Obj} {vs : Array Value} {Q : Unit → Shared → Prop}
    (ha : A.frames = some (env :: outer)) (hf : s.heap.FunFrames base (env :: outer)) (hl : env.frame = some L) (e1 : s.heap.get? e = some oe) (hd : oe.dict = di) (e2 : oe.data = .fields vs) (one : vs[1]? = some .none)
    (k : ∀ h' T, s.heap.get? T = none → Tr di e T oe.cls .none h' → Kp ((env :: outer).filterMap (·.frame)) [e] s.heap h' → Q () { s with heap := h' }) : wpAny M A (leaving env (.ref e)) Q E s := by
  have r : Rec s.heap e oe vs := ⟨e1, e2⟩
  unfold leaving noteFrame
  simp only [hl]
  exact wpAny_bind (wpAny_bind (wpAny_field e1 e2 one (hung ha hf hl r hd (Array.getElem?_eq_some_iff.mp one).1 (by simp) k)))
/-- it goes on through a def that called -/
theorem note_next {base : Heap} {env : Env} {outer : List Env} {L e T0 : Addr} {cls : Value} {Q : Unit → Shared → Prop}
    (ha : A.frames = some (env :: outer)) (hf : s.heap.FunFrames base (env :: outer)) (hl : env.frame = some L) (ht : Tr di e T0 cls .none s.heap)
    (k : ∀ h' T, s.heap.get? T = none → Tr di e T cls .none h' → Kp ((env :: outer).filterMap (·.frame)) [e, T0] s.heap h' → Q () { s with heap := h' }) : wpAny M A (noteFrame (.ref e) env) (fun _ s' => wpAny M A (setFlight (.ref e) none) Q E s') E s := by
  obtain ⟨oe, vs, oT, ts, e1, ⟨c, hd⟩, e2, one, n, t1, t2, three, room⟩ := ht
  have r : Rec s.heap e oe vs := ⟨e1, e2⟩
  have r' : Rec s.heap T0 oT ts := ⟨t1, t2⟩
  have p : Kp ((env :: outer).filterMap (·.frame)) [e, T0] s.heap (s.heap.update T0 (Obj.mapFields (·.setIfInBounds 3 Value.none))) := .field (by simp) t1 t2
  have fr : Heap.FunFrames (s.heap.update T0 (Obj.mapFields (·.setIfInBounds 3 Value.none))) base (env :: outer) := hf.of_keeps fun b o q nf => ⟨o, (Heap.get?_update_other _ _ fun z => by
    rw [← z, t1] at q; exact nf ts (Option.some.inj q ▸ t2)).trans q, rfl⟩
  unfold noteFrame
  simp only [hl]
  refine wpAny_bind (wpAny_field e1 e2 one ?_)
  simp only [show (Value.ref T0 != Value.none) = true from rfl, if_true]
  refine wpAny_bind (wpAny_field t1 t2 three ?_)
  simp only [show (Value.none == rawInt L) = false from rfl, Bool.false_eq_true, if_false]
  refine wpAny_bind (wpAny_setField t1 t2 room ?_)
  refine hung (s := { s with heap := s.heap.update T0 (Obj.mapFields (·.setIfInBounds 3 Value.none)) }) (xs := [e, T0]) ha fr hl (r.off n.symm _) hd (Array.getElem?_eq_some_iff.mp one).1 (.head _) fun h' T nw tr q => ?_
  rw [c] at tr
  exact k h' T (p.fresh nw) tr (p.trans q)
theorem leave_next {base : Heap} {env : Env} {outer : List Env} {L e T0 : Addr} {cls : Value} {Q : Unit → Shared → Prop}
    (ha : A.frames = some (env :: outer)) (hf : s.heap.FunFrames base (env :: outer)) (hl : env.frame = some L) (ht : Tr di e T0 cls .none s.heap)
    (k : ∀ h' T, s.heap.get? T = none → Tr di e T cls .none h' → Kp ((env :: outer).filterMap (·.frame)) [e, T0] s.heap h' → Q () { s with heap := h' }) : wpAny M A (leaving env (.ref e)) Q E s :=
  wpAny_bind (note_next ha hf hl ht k)
end
end Fx
namespace L2
open PySem PySem.Spec PyProof.Rows Fx
/-- an exception of class cls flies behind a call: new are it and its entry, both untracked -/
def CX2 (P : Program) (w : World) : CXT := fun outer H s E e s' => ∃ (a T : Addr) (cls : Value) (di : Option Addr) (H' : Hp), e = .ref a ∧ s'.os = s.os ∧ AllBare s'.gens ∧ Un (frs outer) [] H H' s.heap s'.heap ∧ HOk P w H' s'.heap ∧
  Tr di a T cls .none s'.heap ∧ s.heap.get? a = none ∧ s.heap.get? T = none ∧ H' a = none ∧ H' T = none ∧ E cls di H'
end L2

set_option maxHeartbeats 4000000
namespace L2
open PySem PySem.Spec PyProof.Rows Fx
theorem ObjOk.get {P : Program} {w : World} {H : Hp} {h : Heap} {a : Addr} {o : HO} (x : ObjOk P w H h a o) : ∃ ob, h.get? a = some ob := by
  cases o with
  | lst xs => obtain ⟨_, _, _, _, e⟩ := x; exact ⟨_, e⟩
  | tup xs => obtain ⟨_, _, _, ob, e, _⟩ := x; exact ⟨_, e⟩
  | dK kvs => obtain ⟨_, _, _, _, o, _, _, e, _⟩ := x; exact ⟨_, e⟩
  | dT kvs => obtain ⟨_, _, _, _, o, _, _, e, _⟩ := x; exact ⟨_, e⟩
  | set S n => obtain ⟨o, _, _, _, e, _⟩ := x; exact ⟨_, e⟩
  | ins C dx fs => obtain ⟨_, _, _, e, _⟩ := x; exact ⟨_, e⟩
  | own y => obtain ⟨_, e⟩ := x; exact ⟨_, e⟩
  | xd fs => obtain ⟨_, ⟨_, _, _, e, _⟩, _⟩ := x; exact ⟨_, e⟩
  | rng lo hi => obtain ⟨_, _, _, e⟩ := x; exact ⟨_, e⟩
  | frz ob u => obtain ⟨e, _⟩ := x; exact ⟨_, e⟩
  | tbl ps => exact ⟨_, x⟩
  | met f y => exact ⟨_, x⟩
  | ext φ => obtain ⟨_, ⟨_, e⟩, _⟩ := x; exact ⟨_, e⟩
/-- the body's exceptions leave it as CX2 says, under the wish E -/
structure Flies (X : Cx) (E : XK) : Prop where
  xe : ∀ e s', wpAny (model X.prog X.w) X.A (leaving X.env e) (fun _ s'' => CX2 X.prog X.w X.outer X.H₀ X.s₀ E e s'') (fun e' s'' => CX2 X.prog X.w X.outer X.H₀ X.s₀ E e' s'') s' → X.xe e s'
  stk : X.stack = X.env :: X.outer ∧ X.env.frame = some X.env.locals
  ex : X.ex = []
section
variable {X : Cx} {pins : List (Addr × Obj)} {σ : St} {H : Hp} {s : Shared} {E : XK}
theorem Inv.new0 (I : Inv X pins σ H s) (F : Flies X E) {b : Addr} (hb : s.heap.get? b = none) : X.s₀.heap.get? b = none := by
  cases q : X.s₀.heap.get? b with
  | none => rfl
  | some o =>
    obtain ⟨o', e'⟩ := I.base.there b o q (by rw [F.ex]; intro z; cases z)
    rw [hb] at e'; cases e'
theorem Inv.newH (I : Inv X pins σ H s) {b : Addr} (hb : s.heap.get? b = none) : H b = none := by
  cases q : H b with
  | none => rfl
  | some o =>
    obtain ⟨ob, e'⟩ := ObjOk.get (I.hok b o q)
    rw [hb] at e'; cases e'
theorem Inv.left {h1 h' : Heap} {e T : Addr} {xs : List Addr} {cls : Value} {di : Option Addr} (I : Inv X pins σ H s) (F : Flies X E) (k1 : ∀ b o, s.heap.get? b = some o → h1.get? b = some o) (hxs : ∀ b ∈ xs, X.s₀.heap.get? b = none ∧ H b = none)
    (kp : Kp ((X.env :: X.outer).filterMap (·.frame)) xs h1 h') (he : X.s₀.heap.get? e = none ∧ H e = none) (hT : X.s₀.heap.get? T = none ∧ H T = none) (tr : Tr di e T cls .none h') (q : E cls di H) : CX2 X.prog X.w X.outer X.H₀ X.s₀ E (.ref e) { s with heap := h' } := by
  have hfs : ∀ b, b ∈ (X.env :: X.outer).filterMap (·.frame) → b = X.env.locals ∨ b ∈ X.fs := fun b hb => by
    have := I.stkSub b (by rw [F.stk.1]; exact hb)
    exact List.mem_cons.mp this
  have old : ∀ b o, X.s₀.heap.get? b = some o → b ≠ X.env.locals := fun b o hb z => by
    have h1 := Heap.lt_size hb
    have h2 := I.ok.above
    rw [z] at h1
    exact Nat.lt_irrefl _ (Nat.lt_of_lt_of_le h1 h2)
  have nex : ∀ b, b ∉ X.ex := fun b hb => by rw [F.ex] at hb; cases hb
  have nxs : ∀ b o, X.s₀.heap.get? b = some o → b ∉ xs := fun b o hb hm => by rw [(hxs b hm).1] at hb; cases hb
  refine ⟨e, T, cls, di, H, rfl, I.os, I.bare, ⟨fun b o hb hn hf _ => ?_, fun b o hb hn hf _ => ?_, fun b o hb hn _ => I.base.free b o hb hn (nex b), fun b o hb _ => ?_, I.base.tups, I.base.frzs, I.base.tbls⟩, fun a o ha => ?_, tr, he.1, hT.1, he.2, hT.2, q⟩
  · have q1 := I.base.keep b o hb hn hf (nex b)
    exact kp.keep b o (k1 b o q1) (fun hm => (hfs b hm).elim (old b o hb) hf) (nxs b o hb)
  · obtain ⟨sl, q1⟩ := I.base.slot b o hb hn hf (nex b)
    obtain ⟨sl2, q2⟩ := kp.slot b _ (k1 b _ q1) (nxs b o hb)
    exact ⟨sl2, q2⟩
  · obtain ⟨o', q1⟩ := I.base.there b o hb (nex b)
    exact kp.there b o' (k1 b o' q1)
  · refine (I.hok a o ha).stay (fun c v hc q => ?_) (fun _ q => q) fun _ _ q => q
    have hcn : ∃ u, H c = some u := by
      rcases hc with z | z
      · rw [z]; exact ⟨_, ha⟩
      · exact ⟨_, z⟩
    obtain ⟨u, hu⟩ := hcn
    refine kp.keep c v (k1 c v q) (fun hm => ?_) (fun hm => by rw [(hxs c hm).2] at hu; cases hu)
    have := I.stkFree c (by rw [F.stk.1]; exact hm)
    rw [hu] at this; cases this
/-- a new exception leaves the body -/
theorem Inv.fly {h1 : Heap} {e : Addr} {cls : Value} {args : List Value} (I : Inv X pins σ H s) (F : Flies X E) (m : Heap.MadeExcOf s.heap h1 e cls args) (q : E cls none H) : X.xe (.ref e) { s with heap := h1 } := by
  refine F.xe _ _ ?_
  obtain ⟨t, he, _, _⟩ := m.there
  have ne : X.s₀.heap.get? e = none ∧ H e = none := ⟨I.new0 F m.new, I.newH m.new⟩
  refine leave_first (base := X.base) (outer := X.outer) (s := { s with heap := h1 }) (by rw [I.ok.frames, F.stk.1]) ((by rw [← F.stk.1]; exact I.stack : s.heap.FunFrames X.base (X.env :: X.outer)).of_keeps fun b o hb _ => ⟨o, m.keeps b o hb, rfl⟩) F.stk.2 he rfl rfl rfl fun h' T nT tr kp => ?_
  have nT' : s.heap.get? T = none := by
    cases q : s.heap.get? T with
    | none => rfl
    | some o =>
      have nT2 : h1.get? T = none := nT
      rw [m.keeps T o q] at nT2; cases nT2
  exact Inv.left (s := s) (h1 := h1) (h' := h') I F m.keeps (fun b hb => by rw [List.mem_singleton.mp hb]; exact ne) kp ne ⟨I.new0 F nT', I.newH nT'⟩ tr q
/-- an exception of a callee leaves this body too -/
theorem Inv.flyOn {E' : XK} {e : Value} {s' : Shared} (I : Inv X pins σ H s) (F : Flies X E) (c : CX2 X.prog X.w X.stack H s E' e s') (hE : ∀ cls di H', E' cls di H' → E cls di H') : X.xe e s' := by
  obtain ⟨a, T, cls, di, H1, rfl, os, bare, un, hok, tr, na, nT, ha, hT, q⟩ := c
  have I1 : Inv X pins σ H1 s' := I.call' (ch := []) os un hok bare (fun b hb => by cases hb)
  refine F.xe _ _ ?_
  refine leave_next (base := X.base) (outer := X.outer) (by rw [I.ok.frames, F.stk.1]) (by rw [← F.stk.1]; exact I1.stack) F.stk.2 tr fun h' T' nT' tr' kp => ?_
  refine Inv.left (s := s') (h1 := s'.heap) (h' := h') I1 F (fun b o hb => hb) (fun b hb => ?_) kp ⟨I.new0 F na, ha⟩ ⟨I1.new0 F nT', I1.newH nT'⟩ tr' (hE _ _ _ q)
  simp only [List.mem_cons, List.not_mem_nil, or_false] at hb
  rcases hb with rfl | rfl
  · exact ⟨I.new0 F na, ha⟩
  · exact ⟨I.new0 F nT, hT⟩
theorem Flies.passes {E' : XK} (F : Flies X E) (hE : ∀ cls di H', E' cls di H' → E cls di H') : Passes (CX2 X.prog X.w) X E' := fun pins σ H s e s' I c => I.flyOn F c hE
theorem flies_of {P : Program} {w : World} {K : PySem.W.Frag} {mg : Str → Option Value} {base : Heap} {N : List Str} {qual : Str} {scope : Scope} {f : Addr} {cd : Value} {A : Around} {outer : List Env} {s : Shared} {H : Hp} {E : XK} :
    Flies (cxOf (CX2 P w) P w K mg base N qual scope f cd A outer s H E) E := ⟨fun _ _ h => h, ⟨rfl, rfl⟩, rfl⟩
end
/-- a promise without exceptions is one with any -/
theorem FnOk.calm {P : Program} {w : World} {K : PySem.W.Frag} {mg : Str → Option Value} {base : Heap} {CX : CXT} {k : Nat} {f : Addr} {fd : FuncData} {ps : List Str} {sp : Sp} (F : FnOk P w K mg base CX0 k f fd ps sp) : FnOk P w K mg base CX k f fd ps sp :=
  ⟨F.len, fun A outer s H args us vs Q E hr he hb hv hs => codeAny_mono (F.run A outer s H args us vs Q E hr he hb hv hs) fun r s' h => by
    cases r with
    | ok fl => cases fl with
      | ret u => exact h
      | next => exact h
      | brk => exact h
      | cont => exact h
    | error e => exact False.elim h⟩
end L2

set_option maxHeartbeats 4000000
namespace L2
open PySem PySem.Spec PyProof.Rows Fx
abbrev bmVE : List Value := [.type "ValueError", .type "Exception", .type "BaseException", .type "object"]
/-- an own exception class under ValueError, without an __init__ of its own; bm: what it comes from, in order -/
structure ExcAt (K : PySem.W.Frag) (C : Addr) (bm : List Value) : Prop where
  ex : ∃ N nm q bs hdct sn sub ab col dd k0 k1 k2 k3 k5, K.lookup C = some (excClassObj nm q C N bs bm hdct sn sub ab col dd k0 k1 k2 k3 k5 "ValueError.__new__") ∧ PySem.W.nsOkIn K N = true ∧ PySem.W.nsIn K N "__init__" = some none
  tail : PySem.W.tailIn K bmVE bm = true
theorem excAt {K : PySem.W.Frag} {C N : Addr} {nm q : Str} {bs bm : List Value} {hdct : Bool} {sn : List Str} {sub : List Value} {ab : Bool} {col : Option Bool} {dd : Option Addr} {k0 k1 k2 k3 k5 : Option Value}
    (l : K.lookup C = some (excClassObj nm q C N bs bm hdct sn sub ab col dd k0 k1 k2 k3 k5 "ValueError.__new__")) (o : PySem.W.nsOkIn K N = true) (n : PySem.W.nsIn K N "__init__" = some none) (t : PySem.W.tailIn K bmVE bm = true) : ExcAt K C bm :=
  ⟨⟨N, nm, q, bs, hdct, sn, sub, ab, col, dd, k0, k1, k2, k3, k5, l, o, n⟩, t⟩
section
variable {X : Cx} {E : XK} {x : Str} {C : Addr} {e : Expr} {es : List Expr} {t : TA} {np cpos pos : Pos} {bm : List Value}
/-- raise C(..): the class's wish, at the heap behind the arguments -/
def tRaise (E : XK) (C : Addr) (t : TA) : TS := fun _ σ H => t σ H fun vs H1 => vs.length ≤ sizeLine ∧ E (.ref C) none H1
theorem ps_raise (F : Flies X E) (hc : X.calm = true) (hg : Gl X x) (hm : X.mg x = some (.ref C)) (hx : ExcAt X.K C bm) (ha : PA X (e :: es) t) (hdb : (x == ("__debug__" : Str)) = false := by decide)
    (he : starEach (e :: es) X.env = (false, eval e X.env) :: starEach es X.env := by rfl) (hpl : (backTo cpos (starEach es X.env)).any (·.1) = false := by rfl) :
    PS X (.Raise (some (.Call (.Name x np) (e :: es) [] cpos)) none pos) (tRaise E C t) := by
  intro pins s σ H D I h
  obtain ⟨N, nm, q, bs, hdct, sn, sub, ab, col, dd, k0, k1, k2, k3, k5, lk, ok, ni⟩ := hx.ex
  have KX := I.ok.mod.kin
  have hC := KX _ _ lk
  have hN : X.base.Ns N _ := .of_isNs (PySem.W.isNs_of_in KX ok)
  have hni := PySem.W.nsMap_none_of_in KX ok ni
  have T := PySem.W.tail_of_in KX hx.tail
  refine wpAny_Raise_call_subT (C := C) (nm := nm) (q := q) (N := N) (bs := bs) (bm := bm) (hdct := hdct) (sn := sn) (sub := sub) (ab := ab) (col := col) (dd := dd) (k0 := k0) (k1 := k1) (k2 := k2) (k3 := k3) (k5 := k5)
    PySem.F.excBase_ValueError (T.hasType PySem.F.excBase_ValueError.hasBase) (I.ok.hd hc) (by rw [he]; show (false || (backTo cpos (starEach es X.env)).any (·.1)) = false; rw [hpl]; rfl) hni (ld_glob I hg hm ⟨rfl, ?_⟩ hdb)
  have h2 := ha cpos pins s σ H _ I h
  rw [he] at h2 ⊢
  refine Calls.evalArgs_plain (wpAny_mono h2 (fun us s1 ⟨vs, H1, I1, r1, hl, q1⟩ => ⟨rfl, by rw [← r1.length]; exact hl, I1.bk _ _ hC, hN.keeps I1.bk, T.keeps I1.bk, fun h' a m => I1.fly F m q1⟩) fun _ _ y => y)
end
end L2

set_option maxHeartbeats 4000000
namespace PySem
section
variable {M : Model} {A : Around} {E : Value → Shared → Prop}
/-- an own exception caught by an own class that it comes from -/
theorem excMatches_base {h : Heap} {g : Array GenState} {d : Drawn} {t : Nat} {os : OsState} {e C D : Addr} {oe : Obj} {Q : Bool → Shared → Prop}
    {nm q : Str} {N : Addr} {bs bm : List Value} {hdct : Bool} {sn : List Str} {sub : List Value} {ab : Bool} {col : Option Bool} {dd : Option Addr} {k0 k1 k2 k3 k5 : Option Value} {newId : String}
    {nm' q' : Str} {N' : Addr} {bs' bm' : List Value} {hdct' : Bool} {sn' : List Str} {sub' : List Value} {ab' : Bool} {col' : Option Bool} {dd' : Option Addr} {k0' k1' k2' k3' k5' : Option Value} {newId' : String}
    (hC : h.get? C = some (excClassObj nm q C N bs bm hdct sn sub ab col dd k0 k1 k2 k3 k5 newId)) (hD : h.get? D = some (excClassObj nm' q' D N' bs' bm' hdct' sn' sub' ab' col' dd' k0' k1' k2' k3' k5' newId'))
    (he : h.get? e = some oe) (hcls : oe.cls = .ref C) (hbase : bm'.contains (.type "BaseException") = true) (hsub : (Value.ref C :: bm).contains (.ref D) = true)
    (hq : Q true ⟨h, g, d, t, os⟩) : wpAny M A (excMatches (.ref e) (.ref D)) Q E ⟨h, g, d, t, os⟩ := by
  have hcB : (Value.ref D :: bm').contains (.type "BaseException") = true := by rw [List.contains_cons, hbase, Bool.or_true]
  have f := tc_notTuple
  unfold excMatches
  repeat (first | (with_reducible refine wpAny_loadPart_at he ?_; rw [hcls]) | with_reducible refine wpAny_loadPart_at hD ?_ | (with_reducible refine wpAny_isSubtype_exc hD ?_; rw [hcB]) | (with_reducible refine wpAny_isSubtype_exc hC ?_; rw [hsub]) | wp_step)
  exact hq
end
end PySem
namespace L2
open PySem PySem.Spec PyProof.Rows Fx
/-- the exception at a, of class cls, as it lies once caught; its entry's flight is of no more account -/
def ExcO (di : Option Addr) (a : Addr) (cls : Value) : HO := .ext fun h => ∃ o vs, h.get? a = some o ∧ (o.cls = cls ∧ o.dict = di) ∧ o.data = .fields vs
/-- the body of a try, begun at σ0 -/
def Xt (X : Cx) (pins : List (Addr × Obj)) (σ0 : St) (E : XK) : Cx := { X with pn := X.pn ++ pins, xe := fun e s' => ∃ H1 s1, Inv X pins σ0 H1 s1 ∧ CX2 X.prog X.w X.stack H1 s1 E e s' }
theorem Inv.ofXt {X : Cx} {pins p2 : List (Addr × Obj)} {σ0 σ : St} {E : XK} {H : Hp} {s : Shared} (I : Inv (Xt X pins σ0 E) p2 σ H s) : Inv X pins σ H s :=
  ⟨⟨I.ok.mod, I.ok.kind, I.ok.glob, I.ok.blt, I.ok.above, I.ok.inj, I.ok.has, I.ok.cab, I.ok.hd, I.ok.frames, I.ok.stk, I.ok.exf, I.ok.bs, I.ok.bsz, I.ok.noex, I.ok.exfs, I.ok.funs, I.ok.frf⟩,
    I.os, I.bare, I.base, I.loc, I.cell, I.free, I.freeC, fun p hp => I.pin p (List.mem_append_left _ hp), I.hok, I.len⟩
theorem Inv.toXt {X : Cx} {pins : List (Addr × Obj)} {σ0 σ : St} {E : XK} {H : Hp} {s : Shared} (I : Inv X pins σ H s) : Inv (Xt X pins σ0 E) [] σ H s :=
  ⟨⟨I.ok.mod, I.ok.kind, I.ok.glob, I.ok.blt, I.ok.above, I.ok.inj, I.ok.has, I.ok.cab, I.ok.hd, I.ok.frames, I.ok.stk, I.ok.exf, I.ok.bs, I.ok.bsz, I.ok.noex, I.ok.exfs, I.ok.funs, I.ok.frf⟩,
    I.os, I.bare, I.base, I.loc, I.cell, I.free, I.freeC, fun p hp => I.pin p (by rw [List.append_nil] at hp; exact hp), I.hok, I.len⟩
/-- the suite behind except, at the exception a -/
def Xh (X : Cx) (a : Addr) : Cx := { X with A := X.A.mark (some (.ref a)), calm := false, xe := fun _ _ => False }
theorem Inv.toXh {X : Cx} {pins : List (Addr × Obj)} {σ : St} {a : Addr} {H : Hp} {s : Shared} (I : Inv X pins σ H s) : Inv (Xh X a) pins σ H s :=
  ⟨⟨I.ok.mod, I.ok.kind, I.ok.glob, I.ok.blt, I.ok.above, I.ok.inj, I.ok.has, I.ok.cab, (fun z => by cases z), I.ok.frames, I.ok.stk, I.ok.exf, I.ok.bs, I.ok.bsz, I.ok.noex, I.ok.exfs, I.ok.funs, I.ok.frf⟩,
    I.os, I.bare, I.base, I.loc, I.cell, I.free, I.freeC, I.pin, I.hok, I.len⟩
theorem Inv.ofXh {X : Cx} {pins : List (Addr × Obj)} {σ : St} {a : Addr} {H : Hp} {s : Shared} (ok : X.Ok) (I : Inv (Xh X a) pins σ H s) : Inv X pins σ H s :=
  ⟨ok, I.os, I.bare, I.base, I.loc, I.cell, I.free, I.freeC, I.pin, I.hok, I.len⟩
/-- the state behind the catch: the exception is tracked -/
theorem Inv.landed {X : Cx} {pins : List (Addr × Obj)} {σ : St} {H1 H' : Hp} {s1 s' : Shared} {a T T' : Addr} {cls : Value} {h' : Heap} (I : Inv X pins σ H1 s1) (os : s'.os = s1.os) (bare : AllBare s'.gens) (un : Un (frs X.stack) [] H1 H' s1.heap s'.heap) (hok : HOk X.prog X.w H' s'.heap)
    (kp : Kp (frs X.stack) [a, T] s'.heap h') (na : s1.heap.get? a = none) (nT : s1.heap.get? T = none) (ha : H' a = none) (hT : H' T = none) (tr : Tr di a T' cls .none h') : Inv X pins σ (upd H' a (ExcO di a cls)) { s' with heap := h' } := by
  obtain ⟨oe, vs, oT, ts, he, hc, hd, h1, hTe, hT', hdT, h3, hz⟩ := tr
  have nx : ∀ b o, s1.heap.get? b = some o → b ∉ [a, T] := fun b o hb hm => by
    simp only [List.mem_cons, List.not_mem_nil, or_false] at hm
    rcases hm with rfl | rfl
    · rw [na] at hb; cases hb
    · rw [nT] at hb; cases hb
  have nea : ∀ b u, H' b = some u → b ≠ a := fun b u hb z => by rw [z, ha] at hb; cases hb
  have frn : ∀ b, b ∈ frs X.stack → H' b = none := fun b hb => by
    obtain ⟨_, o, ho, _⟩ := I.stack.mem hb
    exact un.free b o ho (I.stkFree b hb) (by intro z; cases z)
  refine I.call' (ch := []) (s' := { s' with heap := h' }) os ⟨fun b o hb hn hf ox => ?_, fun b o hb hn hf ox => ?_, fun b o hb hn ox => ?_, fun b o hb ox => ?_, fun b xs hb => ?_, fun b o u hb => ?_, fun b ps hb => ?_⟩ (fun c o hc' => ?_) bare (fun b hb => by cases hb)
  · exact kp.keep b o (un.keep b o hb hn hf ox) hf (nx b o hb)
  · obtain ⟨sl, q⟩ := un.slot b o hb hn hf ox
    obtain ⟨sl2, q2⟩ := kp.slot b _ q (nx b o hb)
    exact ⟨sl2, q2⟩
  · rw [upd_ne (fun z => nx b o hb (by simp [z]))]; exact un.free b o hb hn ox
  · obtain ⟨o', q⟩ := un.there b o hb ox
    exact kp.there b o' q
  · have := un.tups b xs hb
    rw [upd_ne (nea b _ this)]; exact this
  · have := un.frzs b o u hb
    rw [upd_ne (nea b _ this)]; exact this
  · obtain ⟨more, this⟩ := un.tbls b ps hb
    exact ⟨more, by rw [upd_ne (nea b _ this)]; exact this⟩
  · by_cases hca : c = a
    · subst hca
      rw [upd_same] at hc'
      cases hc'
      exact ⟨⟨oe, vs, he, hc, hd⟩, ⟨oe, he⟩, fun h1 h2 ⟨o, vs, q1, q2, q3⟩ k => ⟨o, vs, k o q1, q2, q3⟩⟩
    · rw [upd_ne hca] at hc'
      refine (hok c o hc').stay (fun d v hd' q => ?_) (fun b q => by rw [upd_ne (nea b _ q)]; exact q) fun b xs q => by rw [upd_ne (nea b _ q)]; exact q
      have hdn : ∃ u, H' d = some u := by
        rcases hd' with z | z
        · rw [z]; exact ⟨_, hc'⟩
        · exact ⟨_, z⟩
      obtain ⟨u, hu⟩ := hdn
      refine kp.keep d v q (fun hm => ?_) (fun hm => ?_)
      · rw [frn d hm] at hu; cases hu
      · simp only [List.mem_cons, List.not_mem_nil, or_false] at hm
        rcases hm with rfl | rfl
        · rw [ha] at hu; cases hu
        · rw [hT] at hu; cases hu
/-- the locals are let go -/
theorem Inv.blank {X : Cx} {pins : List (Addr × Obj)} {σ : St} {H : Hp} {s : Shared} {h' : Heap} {m' : Str → Option Value} {tk : Nat} (I : Inv X pins σ H s) (hn : h'.Ns X.env.locals m') (hs : Heap.SameBut X.env.locals s.heap h') : Inv X pins (List.replicate X.N.length none) H { s with heap := h', toks := tk } := by
  have offL : ∀ b o, X.s₀.heap.get? b = some o → b ≠ X.env.locals := fun b o e => Nat.ne_of_lt (Nat.lt_of_lt_of_le (Heap.lt_size e) I.ok.above)
  refine ⟨I.ok, I.os, I.bare, ⟨fun b o e n hb nx => ?_, fun b o e n hb nx => ?_, I.base.free, fun b o e nx => ?_, I.base.tups, I.base.frzs, I.base.tbls⟩, ⟨m', hn, fun i x v k1 e2 e3 => ?_⟩, fun x c e => ?_, I.free, I.freeC, fun p hp => ?_, fun b ob e => ?_, by simp⟩
  · exact (hs.2 b (offL b o e)).trans (I.base.keep b o e n hb nx)
  · obtain ⟨sl, k1⟩ := I.base.slot b o e n hb nx
    exact ⟨sl, (hs.2 b (offL b o e)).trans k1⟩
  · obtain ⟨o', k1⟩ := I.base.there b o e nx
    exact ⟨o', (hs.2 b (offL b o e)).trans k1⟩
  · rw [List.getElem?_replicate] at e2
    split at e2 <;> cases e2
  · obtain ⟨v, o, ho, hd⟩ := I.cell x c e
    exact ⟨v, o, (hs.2 c (I.cne x c e)).trans ho, hd⟩
  · obtain ⟨q1, q2, q3, q4, q5⟩ := I.pin p hp
    exact ⟨(hs.2 _ q3).trans q1, q2, q3, q4, q5⟩
  · refine (I.hok b ob e).stay (fun c w' hc q => (hs.2 c ?_).trans q) (fun _ q => q) fun _ _ q => q
    rintro rfl
    rcases hc with rfl | hc
    · rw [I.free] at e; cases e
    · rw [I.free] at hc; cases hc
end L2

set_option maxHeartbeats 4000000
namespace L2
open PySem PySem.Spec PyProof.Rows Fx
section
variable {X : Cx} {E : XK}
def tTry (E : XK) (tb : St → TS) (th : TS) (i : Nat) : TS := fun D σ H => tb σ D σ H ∧ ∀ a cls di H', E cls di H' → H' a = none → th { nx := fun _ _ => False, rt := D.rt } (σ.set i (some (.ref a))) (upd H' a (ExcO di a cls))
theorem ps_try {st b₀ : Stmt} {suite : List Stmt} {cx n : Str} {C D : Addr} {i : Nat} {np hpos pos : Pos} {tb : St → TS} {th : TS} {bm bm' : List Value} (hst : X.stack = X.env :: X.outer ∧ X.env.frame = some X.env.locals) (hN : X.N.Nodup) (hi : X.N[i]? = some n) (hloc : X.env.scope.names.lookup n = some .local)
    (hg : Gl X cx) (hm : X.mg cx = some (.ref D)) (hC : ExcAt X.K C bm) (hD : ExcAt X.K D bm') (hsub : (Value.ref C :: bm).contains (.ref D) = true) (hE : ∀ cls di H', E cls di H' → cls = .ref C)
    (hb : ∀ pins σ, PSs (Xt X pins σ E) [st] (tb σ)) (hh : ∀ a, PSs (Xh X a) (b₀ :: suite) th) (hdb : (cx == ("__debug__" : Str)) = false := by decide) :
    PS X (.Try [st] [.ExceptHandler (some (.Name cx np)) (some n) (b₀ :: suite) hpos] [] [] pos) (tTry E tb th i) := by
  intro pins s σ H D' I h
  obtain ⟨h1, h2⟩ := h
  refine wpAny_Try_except (wpAny_mono (hb pins σ [] s σ H D' I.toXt h1) (fun f s1 q => ?_) (fun e s1 q => ?_))
  · cases f with
    | next => obtain ⟨σ', H', I', q⟩ := q; exact wpAny_execs_nil ⟨σ', H', I'.ofXt, q⟩
    | brk => obtain ⟨σ', H', I', q⟩ := q; exact ⟨σ', H', I'.ofXt, q⟩
    | cont => obtain ⟨σ', H', I', q⟩ := q; exact ⟨σ', H', I'.ofXt, q⟩
    | ret u => obtain ⟨v, σ', H', I', r, q⟩ := q; exact ⟨v, σ', H', I'.ofXt, r, q⟩
  obtain ⟨H1, s0, I0, a, T, cls, di, H', rfl, os, bare, un, nsOk, tr, na, nT, ha, hT, q⟩ := q
  obtain rfl := hE cls di H' q
  have I1 : Inv X pins σ H' s1 := I0.call' (ch := []) os un nsOk bare (fun b hb => by cases hb)
  have hcls : X.env.kindOf n = some .local := hloc
  refine note_next (base := X.base) (outer := X.outer) (by rw [I.ok.frames, hst.1]) (by rw [← hst.1]; exact I1.stack) hst.2 tr fun h' T' nT' tr' kp => ?_
  have kp' : Kp (frs X.stack) [a, T] s1.heap h' := by rw [hst.1]; exact kp
  have I2 : Inv X pins σ (upd H' a (ExcO di a (.ref C))) { s1 with heap := h' } := I0.landed os bare un nsOk kp' na nT ha hT tr'
  obtain ⟨_, _, _, _, _, _, _, _, _, _, _, _, _, _, _, lC, _, _⟩ := hC.ex
  obtain ⟨_, _, _, _, _, _, _, _, _, _, _, _, _, _, _, lD, _, _⟩ := hD.ex
  have TD := PySem.W.tail_of_in I2.kIn hD.tail
  obtain ⟨oe, vs, oT, ts, he, ⟨hc, _⟩, _⟩ := id tr'
  refine wpAny_handleBy_cons (codeAny_handlers_test (ld_glob (X := Xh X a) (I2.toXh (a := a)) hg hm ?_ hdb)) (by intro q; cases q)
  refine excMatches_base (I2.kIn _ _ lC) (I2.kIn _ _ lD) he hc (TD.hasType PySem.F.excBase_ValueError.hasBase) hsub ?_
  refine codeAny_handlers_suite_as ?_
  refine flight (s := { s1 with heap := h' }) tr' fun h3 tr3 same => ?_
  have kp3 : Kp (frs X.stack) [a, T] s1.heap h3 := by
    have ne : ∀ b o, s1.heap.get? b = some o → b ≠ T' := fun b o hb z => by rw [z, nT'] at hb; cases hb
    exact ⟨fun b o hb hf hx => (same b (ne b o hb)).trans (kp'.keep b o hb hf hx), fun b o hb hx => let ⟨slo, e⟩ := kp'.slot b o hb hx; ⟨slo, (same b (ne b o hb)).trans e⟩, fun b o hb => let ⟨o', e⟩ := kp'.there b o hb; ⟨o', (same b (ne b o hb)).trans e⟩⟩
  have I3 : Inv X pins σ (upd H' a (ExcO di a (.ref C))) { s1 with heap := h3 } := I0.landed os bare un nsOk kp3 na nT ha hT tr3
  refine store_ok (X := Xh X a) (v := .ref a) (I3.toXh (a := a)) hN hi (.inl hloc) rfl (fun s4 I4 => ?_) (.inr hloc)
  refine wpAny_mono (hh a pins s4 _ _ _ I4 (h2 a _ di H' q ha)) (fun f s5 q5 => ?_) (fun x s5 z => z.elim)
  cases f with
  | next => obtain ⟨_, _, _, z⟩ := q5; exact z.elim
  | brk => obtain ⟨_, _, _, z⟩ := q5; exact z.elim
  | cont => obtain ⟨_, _, _, z⟩ := q5; exact z.elim
  | ret u =>
    obtain ⟨v, σ', H5, I5, r, q6⟩ := q5
    obtain ⟨m, hn, _⟩ := id I5.loc
    refine wpAny_nameGoes hcls hn (by rw [I.ok.kind]; rfl) fun h6 m6 hn6 hs6 => ?_
    exact ⟨v, _, H5, (I5.ofXh I.ok).blank hn6 hs6, r, q6⟩
end
end L2

set_option maxHeartbeats 4000000
namespace PySem.W
open PySem PySem.Spec PySem.Calls PyProof.Rows Builtin Builtin.ObjectAttr
/-- a row of classes: own ones, then ValueError's -/
def overVE : List Value → Bool
  | .ref _ :: r => overVE r
  | [.type a, .type b, .type c, .type d] => a == "ValueError" && b == "Exception" && c == "BaseException" && d == "object"
  | _ => false
theorem ve_end {l : List Value} (e : overVE l = true) : (∃ c r, l = .ref c :: r ∧ overVE r = true) ∨ l = [.type "ValueError", .type "Exception", .type "BaseException", .type "object"] := by
  unfold overVE at e
  split at e
  · exact .inl ⟨_, _, rfl, e⟩
  · simp only [Bool.and_eq_true, beq_iff_eq] at e
    obtain ⟨⟨⟨rfl, rfl⟩, rfl⟩, rfl⟩ := e
    exact .inr rfl
  · cases e
theorem refuse_ve (self : Value) : ∀ {l : List Value}, overVE l = true → refuseLoop self "__setattr__" l = pure ()
  | [], e => by cases e
  | v :: r, e => by
    rcases ve_end e with ⟨c, r', q, e'⟩ | q
    · obtain ⟨rfl, rfl⟩ := List.cons.inj q
      rw [refuseLoop_ref]; exact refuse_ve self e'
    · rw [q]; exact PySem.F.store_ValueError.passes self
theorem ve_has : ∀ {l : List Value}, overVE l = true → l.contains (.type "object") = true
  | [], e => by cases e
  | v :: r, e => by
    rcases ve_end e with ⟨c, r', q, e'⟩ | q
    · obtain ⟨rfl, rfl⟩ := List.cons.inj q
      rw [List.contains_cons, ve_has e', Bool.or_true]
    · rw [q]; rfl
section
variable {prog : Program} {w : World} {A : Around} {E : Value → Shared → Prop} {K : Frag} {x C : Addr} {s : Shared} {R : Result → Shared → Prop}
theorem osa_openE {ox : Obj} {od : Option Obj} {name : Str} {tk : Tok} {v : Value} (X : K.In s.heap) (I : InstAt s.heap x ox C od) (hp : ((clsIn K C).any fun cd => overVE cd.mro) = true) (ht : findIn K (.ref C) name = some none)
    (h : ∀ b, wpAny (model prog w) A.in1 (storeInOwnDict (.ref x) (.ref C) (.str name tk) name v b)
      (fun fin s' => match fin with | .done f => R (.ok f) s' | .again c' => c'.quiet = true ∧ codeAny (model prog w) A c' R s') (fun e s' => R (.error e) s') s) :
    codeAny (model prog w) A (.call (.builtin "object.__setattr__") ⟨[.ref x, .str name tk, v], []⟩) R s := by
  have SF := PySem.F.store_object
  obtain ⟨cd, hc, ho⟩ := any_some hp
  have ne : cd.mro.isEmpty = false := by cases q : cd.mro with | nil => rw [q] at ho; cases ho | cons _ _ => rfl
  have sub : Looks (model prog w) s.heap (isInstance (.ref x) (.type "object")) true := I.type.andThen (looks_mroIn X (by unfold mroIn; rw [hc, Option.bind_some, if_neg (by rw [ne]; decide), ve_has ho]))
  refine codeAny_call_builtin SF.slot.plain SF.entry (@check_slot (model prog w) _ _ s "object.__setattr__" "object" "__setattr__" (.ref x) [.str name tk, v] [] _ SF.kind SF.split sub (SF.args (.ref x) (.str name tk) v) ?_)
  have hm : Looks (model prog w) s.heap (mroOf (.ref C)) cd.mro := (looks_clsIn X hc).andThen .now
  rw [osa_eq, refuse_eq]
  refine wpAny_bind (wpAny_bind (I.type.here (wpAny_bind (hm.here ?_))))
  rw [refuse_ve _ ho]
  have L3 : Looks (model prog w) s.heap (storeTaker? none) none := .now
  refine wpAny_pure (wpAny_bind (I.type.here (wpAny_bind ((looks_findIn X ht).here (wpAny_bind (L3.here ?_))))))
  exact h _
/-- x.name = v, where x is an exception that has no dict as yet -/
theorem set_first {ox : Obj} {name : Str} {v : Value} {Q : Unit → Shared → Prop} (X : K.In s.heap) (I : InstAt s.heap x ox C none) (hd : ox.dict = none) (hf : ox.isFreed = false)
    (hs : findIn K (.ref C) "__setattr__" = some (some (.builtin "object.__setattr__"))) (hp : ((clsIn K C).any fun cd => overVE cd.mro) = true) (ht : findIn K (.ref C) name = some none) (hh : hasDictIn K C = true)
    (h : ∀ h' : Heap, h'.get? x = some { ox with dict := some s.heap.objs.size } → h'.Ns1 s.heap.objs.size (fun y => if y = name then some v else none) → (∀ b o, b ≠ x → s.heap.get? b = some o → h'.get? b = some o) → Q () { s with heap := h', toks := s.toks + 2 }) :
    wpAny (model prog w) A (setAttr (.ref x) name v) Q E s := by
  refine set_plain X I hs (osa_openE (s := { s with toks := s.toks + 1 }) X I hp ht fun b => ?_)
  obtain ⟨cd, hc, hd'⟩ := any_some hh
  have hx := I.at_
  have hn := I.no
  obtain ⟨hp', g, d, t, os⟩ := s
  obtain ⟨oc, odi, oda, osl⟩ := ox
  cases hd
  cases (show oc = Value.ref C from I.cls)
  have hxs : x ≠ hp'.objs.size := Nat.ne_of_lt (Heap.lt_size hx)
  have hx₁ : (hp'.push { cls := .type "dict", data := .dict #[] }).get? x = some ⟨.ref C, none, oda, osl⟩ := Heap.get?_push_of_some _ hx
  have hgd : ((hp'.push { cls := .type "dict", data := .dict #[] }).update x fun o => { cls := o.cls, dict := some hp'.objs.size, data := o.data, slots := o.slots }).get? hp'.objs.size = some { cls := .type "dict", data := .dict #[] } :=
    (Heap.get?_update_ne _ _ _ _ hxs.symm).trans (Heap.get?_push_at rfl rfl)
  have hnd : ((hp'.push { cls := .type "dict", data := .dict #[] }).update x fun o => { cls := o.cls, dict := some hp'.objs.size, data := o.data, slots := o.slots }).Ns hp'.objs.size (fun _ => none) :=
    ⟨_, #[], _, hgd, rfl, fun e he => absurd he (by simp), fun _ => rfl⟩
  refine wpAny_bind (wpAny_pure (wpAny_bind (wpAny_bind (wpAny_loadPart hx (wpAny_bind (Looks.here (s := ⟨hp', g, d, t + 1, os⟩) (looks_clsIn X hc) ?_))))))
  rw [hd', if_neg (by decide), if_neg (by simp [typeHasDict])]
  have fin : wpAny (model prog w) A.in1 (do
      let d ← alloc { cls := Value.type "dict", data := Data.dict #[] }
      update x fun o => { cls := o.cls, dict := some d, data := o.data, slots := o.slots }
      dictMade (Value.ref C) x d) (fun a s' => wpAny (model prog w) A.in1 (match a with
        | some d_1 => storeInDict d_1 (Value.str name t) name v
        | none => noDictFor (Value.ref x) (Value.ref C) name b)
        (fun fin s' => match fin with
          | Fin.done f => (match (Except.ok f : Result) with
            | Except.ok (Flow.ret v) => Q () s'
            | Except.ok a => False
            | Except.error e => E e s')
          | Fin.again c' => c'.quiet = true ∧ codeAny (model prog w) A c' (fun r s' => match r with
                  | Except.ok (Flow.ret v) => Q () s'
                  | Except.ok a => False
                  | Except.error e => E e s') s') (fun e s' => E e s') s') (fun e s' => E e s') ⟨hp', g, d, t + 1, os⟩ := by
    refine wpAny_bind (wpAny_alloc' (wpAny_bind (wpAny_update' hx₁ (wpAny_pure ?_))))
    show wpAny _ _ (storeInDict hp'.objs.size (.str name t) name v) _ _ _
    unfold storeInDict newKeyGuard
    refine wpAny_bind (wpAny_pure (wpAny_bind (wpAny_nsSet1 (Heap.Ns1.of_empty hnd) fun h' hn' hs => ?_)))
    obtain ⟨oD, esD, epD, hoD, hdD, hcD⟩ := hn'.count (Within.cons name v Within.nil)
    refine wpAny_bind (wpAny_lookBehind hoD (by rw [hdD]; exact pastItsLine_dict (Nat.le_trans hcD (by rw [List.length_cons, List.length_nil, sizeLine_eq]; omega))) ?_)
    refine wpAny_pure (h h' ?_ hn' fun b o hbx hb => ?_)
    · refine (hs.2 x hxs).trans (Heap.get?_update_self _ hx₁ ?_)
      cases oda <;> first | rfl | exact hf
    · exact (hs.2 b (Nat.ne_of_lt (Heap.lt_size hb))).trans ((Heap.get?_update_ne _ _ _ _ hbx).trans (Heap.get?_push_of_some _ hb))
  cases oda <;> first | exact fin | cases hn
end
end PySem.W

set_option maxHeartbeats 4000000
namespace PySem.W
open PySem PySem.Spec PySem.Calls PyProof.Rows
/-- what is asked of an exception's class -/
structure ExcG (K : Frag) (D : Addr) : Prop where
  ga : findIn K (.ref D) "__getattribute__" = some (some (.builtin "BaseException.__getattribute__"))
  gt : findIn K (.ref D) "__getattr__" = some none
  ff : ∀ od, findObj K D od "__class__" = some (.bind (.builtin "getset_descriptor.__get__") (.builtin "object.__class__"))
  ob : mroIn K D (.type "object") = some true
  be : kitCls K (.ref D) (.type "BaseException") = some true
  me : kitCls K (.ref D) (.ref D) = some true
  dc : hasDictIn K D = true
section
variable {prog : Program} {w : World} {A : Around} {E : Value → Shared → Prop} {K : Frag} {x D : Addr} {ox : Obj} {od : Option Obj}
theorem exc_told {tk : Tok} {s : Shared} {Q : Fin → Shared → Prop} (g : ExcG K D) (X : K.In s.heap) (I : InstAt s.heap x ox D od) (q : Q (.done (.ret (.ref D))) s) :
    wpAny (model prog w) A (Builtin.«object.__getattribute__» ⟨[.ref x, .str "__class__" tk], []⟩) Q E s := by
  have L0 := I.type (M := model prog w)
  have L1 := looks_find (M := model prog w) X I (g.ff od)
  unfold Builtin.«object.__getattribute__»
  refine wpAny_bind (wpAny_pure (wpAny_bind (wpAny_pure (wpAny_bind (L0.at (wpAny_bind (L1.at ?_)))))))
  show wpAny _ _ (Builtin.ObjectAttr.bindTo _ _ _ _) _ _ _
  unfold Builtin.ObjectAttr.bindTo
  show wpAny _ _ (holding [Value.builtin "object.__class__"] (call (Value.builtin "getset_descriptor.__get__") [Value.builtin "object.__class__", Value.ref x, Value.ref D]) >>= ret) _ _ _
  exact wpAny_bind (wpAny_holding (wpAny_call (class_get (ox := ox) (od := od) X I g.ob (wpAny_pure q))))
theorem exc_value {name : Str} {v : Value} {tk : Tok} {s : Shared} {Q : Fin → Shared → Prop} (X : K.In s.heap) (I : InstAt s.heap x ox D od) (hf : findObj K D od name = some (.value v)) (q : Q (.done (.ret v)) s) :
    wpAny (model prog w) A (Builtin.«object.__getattribute__» ⟨[.ref x, .str name tk], []⟩) Q E s := by
  have L0 := I.type (M := model prog w)
  have L1 := looks_find (M := model prog w) X I hf
  unfold Builtin.«object.__getattribute__»
  refine wpAny_bind (wpAny_pure (wpAny_bind (wpAny_pure (wpAny_bind (L0.at (wpAny_bind (L1.at ?_)))))))
  exact wpAny_pure q
/-- isinstance's own way to an exception's class -/
theorem exc_class {s : Shared} {Q : Option Value → Shared → Prop} (g : ExcG K D) (X : K.In s.heap) (I : InstAt s.heap x ox D od) (q : Q (some (.ref D)) { s with toks := s.toks + 1 }) : wpAny (model prog w) A (getAttr? (.ref x) "__class__") Q E s := by
  have L0 := I.type (M := model prog w)
  have L1 := looks_findIn (M := model prog w) X g.ga
  have L2 := looks_findIn (M := model prog w) X g.gt
  have L3 := (kit_cls (M := model prog w) X g.be).2.2
  have fb := PySem.F.attr_ValueError.ga.bind (.ref x)
  unfold getAttr? getAttrBy? getAttrBy
  refine wpAny_bind (wpAny_mkText (wpAny_bind (wpAny_attempt (wpAny_holding (wpAny_bind (L0.at (wpAny_bind (L1.at ?_))))))))
  show wpAny _ _ (getAttrByItsOwn _ _ _ _ _ _) _ _ _
  unfold getAttrByItsOwn
  refine wpAny_bind (L2.at (wpAny_bind (wpAny_attempt (wpAny_holding ?_))))
  show wpAny _ _ (boundAndCalled _ _ _) _ _ _
  unfold boundAndCalled
  rw [fb]
  refine wpAny_bind (wpAny_pure (wpAny_call (codeAny_call_builtin PySem.F.attr_ValueError.ga.plain F.entry_bexc_ga ?_)))
  have hk : builtinKind "BaseException.__getattribute__" = some .slot := by decide +kernel
  have hsplit : splitId "BaseException.__getattribute__" = some ("BaseException", "__getattribute__") := by decide +kernel
  have ha := F.args_bexc_ga (.ref x) (.str "__class__" s.toks)
  simp only [checkBuiltinCall, hk, hsplit]
  refine wpAny_bind (wpAny_bind (L0.at (L3.at ?_)))
  refine wpAny_of_eq (a := ()) ha ?_
  exact exc_told (s := { s with toks := s.toks + 1 }) g X I (handed_on rfl (wpAny_pure q))
/-- e.name of an exception, where its dict has it -/
theorem exc_get {name : Str} {v : Value} {expr : Bool} {s : Shared} {Q : Value → Shared → Prop} (g : ExcG K D) (X : K.In s.heap) (I : InstAt s.heap x ox D od) (hf : findObj K D od name = some (.value v)) (hh : handedIn v = true) (q : Q v { s with toks := s.toks + 1 }) :
    wpAny (model prog w) A (getAttr (.ref x) name expr) Q E s := by
  have L0 := I.type (M := model prog w)
  have L1 := looks_findIn (M := model prog w) X g.ga
  have L2 := looks_findIn (M := model prog w) X g.gt
  have L3 := (kit_cls (M := model prog w) X g.be).2.2
  have fb := PySem.F.attr_ValueError.ga.bind (.ref x)
  unfold getAttr getAttrBy
  refine wpAny_bind (wpAny_mkText (wpAny_holding (wpAny_bind (L0.at (wpAny_bind (L1.at ?_))))))
  show wpAny _ _ (getAttrByItsOwn _ _ _ _ _ _) _ _ _
  unfold getAttrByItsOwn
  refine wpAny_bind (L2.at (wpAny_bind (wpAny_attempt (wpAny_holding ?_))))
  have hx0 : (expr && onTheHeap (Value.builtin "BaseException.__getattribute__")) = false := by cases expr <;> rfl
  unfold callGetattribute
  rw [hx0]
  show wpAny _ _ (boundAndCalled _ _ _) _ _ _
  unfold boundAndCalled
  rw [fb]
  refine wpAny_bind (wpAny_pure (wpAny_call (codeAny_call_builtin PySem.F.attr_ValueError.ga.plain F.entry_bexc_ga ?_)))
  have hk : builtinKind "BaseException.__getattribute__" = some .slot := by decide +kernel
  have hsplit : splitId "BaseException.__getattribute__" = some ("BaseException", "__getattribute__") := by decide +kernel
  have ha := F.args_bexc_ga (.ref x) (.str name s.toks)
  simp only [checkBuiltinCall, hk, hsplit]
  refine wpAny_bind (wpAny_bind (L0.at (L3.at ?_)))
  refine wpAny_of_eq (a := ()) ha ?_
  refine exc_value (s := { s with toks := s.toks + 1 }) X I hf ?_
  show wpAny _ _ (handedOut v) _ _ _
  rw [handedOut_of hh]
  exact wpAny_pure q
theorem kitx_excG (g : ExcG K D) : KitX K (.ref x) (.ref D) (fun h => ∃ ox od, InstAt h x ox D od) where
  ty := fun _ _ _ p => p.elim fun _ p => p.elim fun _ I => I.type
  it := fun _ _ X _ => (kit_cls X g.me).2.1
  ne := fun h tp dd its n sl X htp => by
    refine Bool.eq_false_iff.mpr fun q => ?_
    obtain rfl : D = tp := Value.ref.inj (beq_iff_eq.mp q)
    obtain ⟨cd, hc, _⟩ := any_some g.dc
    unfold clsIn at hc
    split at hc
    · rename_i c' d' cd' sl' ho
      cases (X _ _ ho).symm.trans htp
    · cases hc
  ca := fun X p k => p.elim fun _ p => p.elim fun _ I => exc_class g X I k
end
end PySem.W
namespace L2
open PySem PySem.Spec PyProof.Rows
def clV : V → Option Value
  | .ty T => some (.type T)
  | .ref D => some (.ref D)
  | _ => none
/-- its dict, if it has one, is tracked -/
def Dx (H : Hp) (di : Option Addr) : Prop := ∀ dx, di = some dx → ∃ fs, H dx = some (.xd fs)
section
variable {X : Cx} {pins : List (Addr × Obj)} {σ : St} {H : Hp} {s : Shared}
theorem exc_at {a C : Addr} {di : Option Addr} (I : Inv X pins σ H s) (hH : H a = some (ExcO di a (.ref C))) (hd : Dx H di) : ∃ o od, PySem.W.InstAt s.heap a o C od ∧ o.dict = di := by
  obtain ⟨⟨o, vs, q1, ⟨q2, q3⟩, q4⟩, _, _⟩ := (show ObjOk X.prog X.w H s.heap a (ExcO di a (.ref C)) from I.hok a _ hH)
  have nc : PySem.W.notCls o = true := by unfold PySem.W.notCls; rw [q4]
  cases di with
  | none => exact ⟨o, none, ⟨q1, q2, nc, by rw [q3]; trivial⟩, q3⟩
  | some dx =>
    obtain ⟨fs, hx⟩ := hd dx rfl
    obtain ⟨mA, ⟨od, es, ep, e1, _⟩, _⟩ := (show ObjOk X.prog X.w H s.heap dx (.xd fs) from I.hok dx _ hx)
    exact ⟨o, some od, ⟨q1, q2, nc, by rw [q3]; exact e1⟩, q3⟩
/-- isinstance of a caught exception -/
theorem call_isinstE : CallR X (.builtin "isinstance") (fun xs H Q => ∃ a di C c cv b, xs = [.ref a, c] ∧ H a = some (ExcO di a (.ref C)) ∧ Dx H di ∧ PySem.W.ExcG X.K C ∧ clV c = some cv ∧ PySem.W.kitOne X.K (.ref C) cv = some b ∧ Q (.bl b) H) := by
  intro pins s σ H xs us Q I r h
  obtain ⟨a, di, C, c, cv, b, rfl, hH, hd, kx, hc, e, q⟩ := h
  obtain ⟨u, v, rfl, ru, rv⟩ := r.two
  cases ru
  have hv : v = cv := by
    cases c <;> first | (cases hc; cases rv; rfl) | cases hc
  subst hv
  obtain ⟨o, od, J, _⟩ := exc_at I hH hd
  exact PySem.W.kia_one (PySem.W.kitx_excG kx) I.kIn ⟨o, od, J⟩ e (fun z => nomatch z) fun tk => ⟨.bl b, H, I.tok tk, rfl, q⟩
/-- e.f, of a caught exception -/
def tFldE (K : PySem.W.Frag) (ta : TE) (f : Str) : TE := fun σ H Q => ta σ H fun x H1 => ∃ a dx C fs v, x = .ref a ∧ H1 a = some (ExcO (some dx) a (.ref C)) ∧ H1 dx = some (.xd fs) ∧ PySem.W.ExcG K C ∧ NoAttr K C f ∧ fs.lookup f = some v ∧ Q v H1
theorem pe_fldE {e : Expr} {f : Str} {pos : Pos} {ta : TE} (he : PE X e ta) (hb : attributeBase e f X.env (eval e X.env) = eval e X.env) : PE X (.Attribute e f pos) (tFldE X.K ta f) := by
  intro pins s σ H Q I h
  refine attr_of hb (thn (he pins s σ H _ I h) fun u s1 ⟨x, H1, I1, rx, a, dx, C, fs, v, ex, ea, ed, g, n, l, q⟩ => ?_)
  subst ex
  obtain rfl : u = Value.ref a := rx
  obtain ⟨⟨o, vs, q1, ⟨q2, q3⟩, q4⟩, _, _⟩ := (show ObjOk X.prog X.w H1 s1.heap a (ExcO (some dx) a (.ref C)) from I1.hok a _ ea)
  obtain ⟨mA, ns, rl⟩ := (show ObjOk X.prog X.w H1 s1.heap dx (.xd fs) from I1.hok dx _ ed)
  obtain ⟨w, hw, rw'⟩ := RelO.some_of (v := v) (o := mA f) (by rw [← l]; exact rl f)
  have nc : PySem.W.notCls o = true := by unfold PySem.W.notCls; rw [q4]
  obtain ⟨od, e1, hl⟩ := lookIn_ns ns
  have J : PySem.W.InstAt s1.heap a o C (some od) := ⟨q1, q2, nc, by rw [q3]; exact e1⟩
  exact PySem.W.exc_get g I1.kIn J (PySem.W.findObj_own g.dc n rfl (by rw [hl, hw])) (handed_of rw') ⟨v, H1, I1.tok _, rw', q⟩
end
end L2

namespace PySem
open Sem (wp)

section
variable {prog : Program} {w : World} {A : Around} {E : Value → Shared → Prop} {h : Heap} {g : Array GenState} {d : Drawn} {t : Nat} {os : OsState}
variable {nm q : Str} {C N : Addr} {bs bm bmB : List Value} {hdct : Bool} {sn : List Str} {sub : List Value} {ab : Bool} {col : Option Bool} {dd : Option Addr} {k0 k1 k2 k3 k5 : Option Value} {B newId initId : String}

theorem wpAny_type_call_exc_initT (F : ExcBaseFacts B newId initId bmB) (T : OwnTail h bmB bm) {mN : Str → Option Value} {rest : List Value} {fI : Addr} {oI : Obj} {Q : Fin → Shared → Prop}
    (hC : h.get? C = some (excClassObj nm q C N bs bm hdct sn sub ab col dd k0 k1 k2 k3 k5 newId)) (hn : h.Ns N mN) (hi : mN "__init__" = some (.ref fI))
    (hfI : h.get? fI = some oI) (hfc : oI.cls = .type "function")
    (hq : ∀ h' e, Heap.MadeExcOf h h' e (.ref C) rest →
      wpAny (model prog w) A (call (.ref fI) (.ref e :: rest)) (fun r s' => r = .none ∧ Q (.done (.ret (.ref e))) s') E ⟨h', g, d, t, os⟩) (hrest : rest.length ≤ sizeLine := by size_fits) :
    wpAny (model prog w) A (Builtin.«type.__call__» ⟨.ref C :: rest, []⟩) Q E ⟨h, g, d, t, os⟩ := by
  repeat (first | with_reducible refine wpAny_loadPart_at hC ?_ | with_reducible refine wpAny_madeBy_exc hC ?_ | wp_step)
  refine codeAny_call_builtin_code (Code.quiet_builtin _ F.quiet) (wpAny_check_new_subT F T hC ?_)
  refine codeAny_exc_new_subT F T hC ?_ hrest
  show wpAny _ _ _ _ _ _
  have hC₁ := Heap.get?_push_of_some { cls := .ref C, data := .fields #[.ref h.objs.size, .none, .none, .none, .bool false, .none] }
    (Heap.get?_push_of_some { cls := .type "tuple", data := .seq rest.toArray } hC)
  have hfI₁ := Heap.get?_push_of_some { cls := .ref C, data := .fields #[.ref h.objs.size, .none, .none, .none, .bool false, .none] }
    (Heap.get?_push_of_some { cls := .type "tuple", data := .seq rest.toArray } hfI)
  have hn₁ : ((h.push { cls := .type "tuple", data := .seq rest.toArray }).push { cls := .ref C, data := .fields #[.ref h.objs.size, .none, .none, .none, .bool false, .none] }).Ns N mN :=
    let ⟨o, es, ep, e, r⟩ := hn; ⟨o, es, ep, Heap.get?_push_of_some _ (Heap.get?_push_of_some _ e), r⟩
  have hget : ((h.push { cls := .type "tuple", data := .seq rest.toArray }).push
      { cls := .ref C, data := .fields #[.ref h.objs.size, .none, .none, .none, .bool false, .none] }).get? (h.objs.size + 1) = some
      { cls := .ref C, data := .fields #[.ref h.objs.size, .none, .none, .none, .bool false, .none] } := by heap_get
  have hcC : (Value.ref C :: bm).contains (.ref C) = true := by simp
  have T₁ := T.keeps (h' := (h.push { cls := .type "tuple", data := .seq rest.toArray }).push { cls := .ref C, data := .fields #[.ref h.objs.size, .none, .none, .none, .bool false, .none] })
    fun b o e => Heap.get?_push_of_some _ (Heap.get?_push_of_some _ e)
  unfold isInstance
  repeat (first | with_reducible refine wpAny_loadPart_at hget ?_ | (with_reducible refine wpAny_isSubtype_exc hC₁ ?_; rw [hcC]) | wp_step)
  show wpAny _ _ (typeLookup (.ref C) _) _ _ _
  refine wpAny_typeLookup_tail hC₁ hn₁ T₁ F.mroIs F.init.lookup ?_
  rw [hi]
  refine wpAny_holding (wpAny_bind ?_)
  unfold bindSpecial
  refine wpAny_bind (wpAny_typeOf (T := "function") ⟨_, hfI₁, hfc⟩ ?_)
  rw [if_pos (by decide)]
  refine wpAny_pure (wpAny_bind (wpAny_mono (hq _ (h.objs.size + 1) ⟨fun b o hb => Heap.get?_push_of_some _ (Heap.get?_push_of_some _ hb), Heap.get?_none_of_le (Nat.le_succ _), h.objs.size, hget, Heap.get?_none_of_le (Nat.le_refl _), ?_⟩) (fun r s' hr => ?_) fun _ _ x => x))
  · exact Heap.get?_push_of_some _ (Heap.get?_push_at rfl rfl)
  · obtain ⟨rfl, hQ⟩ := hr
    wp_walk
    exact hQ

theorem wpAny_call_exc_initT (F : ExcBaseFacts B newId initId bmB) (T : OwnTail h bmB bm) {mN : Str → Option Value} {rest : List Value} {fI : Addr} {oI : Obj} {Q : Value → Shared → Prop}
    (hC : h.get? C = some (excClassObj nm q C N bs bm hdct sn sub ab col dd k0 k1 k2 k3 k5 newId)) (hn : h.Ns N mN) (hi : mN "__init__" = some (.ref fI))
    (hfI : h.get? fI = some oI) (hfc : oI.cls = .type "function")
    (hq : ∀ h' e, Heap.MadeExcOf h h' e (.ref C) rest →
      wpAny (model prog w) (A.under (.builtin "type.__call__" ⟨.ref C :: rest, []⟩)) (call (.ref fI) (.ref e :: rest)) (fun r s' => r = .none ∧ Q (.ref e) s') E ⟨h', g, d, t, os⟩) (hrest : rest.length ≤ sizeLine := by size_fits) :
    wpAny (model prog w) A (call (.ref C) rest) Q E ⟨h, g, d, t, os⟩ := by
  have f1 := tc_lookup
  have f2 := tc_bind (.ref C)
  have hT : (⟨h, g, d, t, os⟩ : Shared).TypeIs (.ref C) "type" := ⟨_, hC, rfl⟩
  refine wpAny_call (codeAny_of_tree ?_)
  show wpAny _ _ (callAny (.ref C) _) _ _ _
  repeat (any_goals (first | assumption | with_reducible refine wpAny_loadPart_at hC ?_ | wp_step))
  refine ⟨rfl, ?_⟩
  refine codeAny_call_builtin_at (Code.quiet_builtin _ (by decide +kernel)) entry_typeCall (wpAny_check_type_call_sub hC (wpAny_type_call_exc_initT (hrest := hrest) F T hC hn hi hfI hfc fun h' e hm => ?_))
  exact hq h' e hm
end

end PySem

/-! raise of an exception whose class has an __init__ of its own: what is raised may have a dict -/
namespace PySem
section
variable {M : Model} {A : Around} {E : Value → Shared → Prop} {env : Env}
variable {nm q : Str} {C N : Addr} {bs bm : List Value} {hdct : Bool} {sn : List Str} {sub : List Value} {ab : Bool} {col : Option Bool} {dd : Option Addr} {k0 k1 k2 k3 k5 : Option Value} {newId : String}
theorem raiseStmt_own {s : Shared} {x : Sem Value} {Q : Flow → Shared → Prop} (hbase : bm.contains (.type "BaseException") = true) (hh : A.handled = none)
    (h : wpAny M A x (fun v s₁ => ∃ e o, v = .ref e ∧ s₁.heap.get? C = some (excClassObj nm q C N bs bm hdct sn sub ab col dd k0 k1 k2 k3 k5 newId) ∧
      s₁.heap.get? e = some o ∧ o.cls = .ref C ∧ (∃ vs, o.data = .fields vs ∧ vs[1]? = some .none) ∧ E (.ref e) s₁) E s) :
    wpAny M A (raiseStmt env (some x) none) Q E s := by
  have hcB : (Value.ref C :: bm).contains (.type "BaseException") = true := by rw [List.contains_cons, hbase, Bool.or_true]
  unfold raiseStmt
  refine wpAny_bind (wpAny_mono h (fun v s₁ h₁ => ?_) fun _ _ x => x)
  obtain ⟨e, ⟨cl, di, da, sl⟩, rfl, hC, he, hcl, ⟨vs, hda, hv⟩, hE⟩ := h₁
  cases hcl
  cases hda
  obtain ⟨hp, g, d, tk, os⟩ := s₁
  repeat (first | with_reducible refine wpAny_loadPart_at he ?_ | with_reducible refine wpAny_loadPart_at hC ?_ | (with_reducible refine wpAny_isSubtype_exc hC ?_; rw [hcB]) | wp_step)
  rw [hv]
  refine wpAny_pure ?_
  rw [if_neg (by decide)]
  exact wpAny_pure (wpAny_raiseNew_none hh hE)
end
end PySem

set_option maxHeartbeats 4000000
namespace L2
open PySem PySem.Spec PyProof.Rows Fx
/-- an own exception class under ValueError whose __init__ is the def st at f -/
structure InitAt (K : PySem.W.Frag) (C f : Addr) (qual : Str) (st : Stmt) (bm : List Value) : Prop where
  cl : ∃ N nm q bs hdct sn sub ab col dd k0 k1 k2 k3 k5, K.lookup C = some (excClassObj nm q C N bs bm hdct sn sub ab col dd k0 k1 k2 k3 k5 "ValueError.__new__") ∧ PySem.W.nsOkIn K N = true ∧ PySem.W.nsIn K N "__init__" = some (some (.ref f))
  tail : PySem.W.tailIn K bmVE bm = true
  fn : ∃ od kV doc pm an cdv ct osl, K.lookup f = some ⟨.type "function", od, .func (PySem.W.fnOf "__init__" qual (defArgs st) (defBody st) (defScope st) .none kV doc pm an cdv ct), osl⟩ ∧ PySem.W.codeIn K cdv qual = true
  kp : PySem.W.keepIn K (.ref C) = true
  sa : PySem.W.findIn K (.ref C) "__setattr__" = some (some (.builtin "object.__setattr__"))
  po : ((PySem.W.clsIn K C).any fun cd => PySem.W.overVE cd.mro) = true
  g : PySem.W.ExcG K C
theorem initAt {K : PySem.W.Frag} {C f N : Addr} {qual : Str} {st : Stmt} {bm : List Value} {nm q : Str} {bs : List Value} {hdct : Bool} {sn : List Str} {sub : List Value} {ab : Bool} {col : Option Bool} {dd od an : Option Addr} {k0 k1 k2 k3 k5 : Option Value} {kV doc pm cdv ct : Value} {osl : Array (Option Value)}
    (l : K.lookup C = some (excClassObj nm q C N bs bm hdct sn sub ab col dd k0 k1 k2 k3 k5 "ValueError.__new__")) (o : PySem.W.nsOkIn K N = true) (n : PySem.W.nsIn K N "__init__" = some (some (.ref f))) (t : PySem.W.tailIn K bmVE bm = true)
    (lf : K.lookup f = some ⟨.type "function", od, .func (PySem.W.fnOf "__init__" qual (defArgs st) (defBody st) (defScope st) .none kV doc pm an cdv ct), osl⟩) (c : PySem.W.codeIn K cdv qual = true)
    (kp : PySem.W.keepIn K (.ref C) = true) (sa : PySem.W.findIn K (.ref C) "__setattr__" = some (some (.builtin "object.__setattr__"))) (po : ((PySem.W.clsIn K C).any fun cd => PySem.W.overVE cd.mro) = true) (g : PySem.W.ExcG K C) : InitAt K C f qual st bm :=
  ⟨⟨N, nm, q, bs, hdct, sn, sub, ab, col, dd, k0, k1, k2, k3, k5, l, o, n⟩, t, ⟨od, kV, doc, pm, an, cdv, ct, osl, lf, c⟩, kp, sa, po, g⟩
/-- an exception that is not in flight as yet -/
def ExcN (di : Option Addr) (a C : Addr) : HO := .ext fun h => ∃ o vs, h.get? a = some o ∧ (o.cls = .ref C ∧ o.dict = di) ∧ o.data = .fields vs ∧ vs[1]? = some .none
def drop (H : Hp) (a : Addr) : Hp := fun b => if b = a then none else H b
theorem drop_ne {H : Hp} {a b : Addr} (h : b ≠ a) : drop H a b = H b := by unfold drop; rw [if_neg h]
theorem drop_same {H : Hp} {a : Addr} : drop H a a = none := by unfold drop; rw [if_pos rfl]
section
variable {X : Cx} {pins : List (Addr × Obj)} {σ : St} {H : Hp} {s : Shared}
theorem excN_ok {P : Program} {w : World} {h : Heap} {di : Option Addr} {a C : Addr} {o : Obj} {vs : Array Value} (e : h.get? a = some o) (c : o.cls = .ref C ∧ o.dict = di) (d : o.data = .fields vs) (v : vs[1]? = some .none) : ObjOk P w H h a (ExcN di a C) :=
  ⟨⟨o, vs, e, c, d, v⟩, ⟨o, e⟩, fun h1 h2 ⟨o, vs, q1, q2, q3⟩ k => ⟨o, vs, k o q1, q2, q3⟩⟩
/-- the exception is let go -/
theorem Inv.drop {a : Addr} {φ : Heap → Prop} (I : Inv X pins σ H s) (e : H a = some (.ext φ)) : Inv X pins σ (L2.drop H a) s := by
  have ne : ∀ b u, H b = some u → (∀ φ, u ≠ .ext φ) → b ≠ a := fun b u hb hu z => by subst z; rw [e] at hb; exact hu φ (Option.some.inj hb).symm
  refine I.call' (ch := []) rfl ⟨fun b o hb hn _ _ => hb, fun b o hb hn _ _ => ⟨o.slots, hb⟩, fun b o hb hn _ => ?_, fun b o hb _ => ⟨o, hb⟩, fun b xs hb => ?_, fun b o u hb => ?_, fun b ps hb => ?_⟩ (fun c o hc => ?_) I.bare (fun b hb => by cases hb)
  · by_cases z : b = a
    · subst z; exact drop_same
    · rw [drop_ne z]; exact hn
  · rw [drop_ne (ne b _ hb (by intro φ z; cases z))]; exact hb
  · rw [drop_ne (ne b _ hb (by intro φ z; cases z))]; exact hb
  · exact ⟨#[], by rw [drop_ne (ne b _ hb (by intro φ z; cases z)), hb, Array.append_empty]⟩
  · have z : c ≠ a := fun z => by subst z; rw [drop_same] at hc; cases hc
    rw [drop_ne z] at hc
    exact (I.hok c o hc).stay (fun d v hd q => q) (fun b q => by rw [drop_ne (ne b _ q (by intro φ z; cases z))]; exact q) fun b xs q => by rw [drop_ne (ne b _ q (by intro φ z; cases z))]; exact q
/-- a new exception is tracked -/
theorem Inv.madeExc {h1 : Heap} {a C : Addr} {args : List Value} (I : Inv X pins σ H s) (m : Heap.MadeExcOf s.heap h1 a (.ref C) args) : Inv X pins σ (upd H a (ExcN none a C)) { s with heap := h1 } := by
  obtain ⟨t, he, _, _⟩ := m.there
  have na := I.newH m.new
  have nea : ∀ b u, H b = some u → b ≠ a := fun b u hb z => by rw [z, na] at hb; cases hb
  refine I.call' (s' := { s with heap := h1 }) (ch := []) rfl ⟨fun b o hb hn _ _ => m.keeps b o hb, fun b o hb hn _ _ => ⟨o.slots, m.keeps b o hb⟩, fun b o hb hn _ => ?_, fun b o hb _ => ⟨o, m.keeps b o hb⟩, fun b xs hb => ?_, fun b o u hb => ?_, fun b ps hb => ?_⟩ (fun c o hc => ?_) I.bare (fun b hb => by cases hb)
  · rw [upd_ne (fun z => by rw [z, m.new] at hb; cases hb)]; exact hn
  · rw [upd_ne (nea b _ hb)]; exact hb
  · rw [upd_ne (nea b _ hb)]; exact hb
  · exact ⟨#[], by rw [upd_ne (nea b _ hb), hb, Array.append_empty]⟩
  · by_cases hca : c = a
    · subst hca
      rw [upd_same] at hc
      cases hc
      exact excN_ok he ⟨rfl, rfl⟩ rfl rfl
    · rw [upd_ne hca] at hc
      exact (I.hok c o hc).stay (fun d v _ q => m.keeps d v q) (fun b q => by rw [upd_ne (nea b _ q)]; exact q) fun b xs q => by rw [upd_ne (nea b _ q)]; exact q
end
end L2

set_option maxHeartbeats 4000000
namespace L2
open PySem PySem.Spec PyProof.Rows Fx
theorem ns_at {K : PySem.W.Frag} {h : Heap} {N : Addr} {m : Str → Option Value} {n : Str} {v : Value} (X : K.In h) (G : h.Ns N m) (e : PySem.W.nsIn K N n = some (some v)) : m n = some v := by
  obtain ⟨o, es, ep, ho, hd, _, hf⟩ := G
  unfold PySem.W.nsIn at e
  split at e
  · rename_i c d es' n' sl q
    have := X _ _ q
    rw [ho] at this
    cases this
    cases hd
    split at e
    · rename_i en he
      cases e
      rw [← hf]
      unfold nsFind findBy
      rw [← Array.find?_toList, he]
      rfl
    · split at e <;> cases e
  · cases e
/-- self.f = value, of an exception that has no dict as yet -/
def sFld1 (C : Addr) (ta tv : TE) (f : Str) : TS := fun D σ H => tv σ H fun y H1 => ta σ H1 fun x H2 => ∃ a, x = .ref a ∧ H2 a = some (ExcN none a C) ∧ ∀ dx, H2 dx = none → dx ≠ a → D.nx σ (upd (upd H2 dx (.xd [(f, y)])) a (ExcN (some dx) a C))
section
variable {X : Cx} {pins : List (Addr × Obj)} {σ : St} {H : Hp} {s : Shared}
/-- the dict of an exception is made -/
theorem Inv.firstDict {s' : Shared} {a C dx : Addr} {f : Str} {y : V} {u : Value} {o' : Obj} {vs : Array Value} (I : Inv X pins σ H s) (e : H a = some (ExcN none a C)) (hos : s'.os = s.os) (hb : AllBare s'.gens) (hd : dx = s.heap.objs.size) (ha : s'.heap.get? a = some o') (hc : o'.cls = .ref C ∧ o'.dict = some dx) (hv : o'.data = .fields vs ∧ vs[1]? = some .none)
    (hn : s'.heap.Ns1 dx (fun z => if z = f then some u else none)) (ru : RelV y u) (k : ∀ b o, b ≠ a → s.heap.get? b = some o → s'.heap.get? b = some o) :
    Inv X pins σ (upd (upd H dx (.xd [(f, y)])) a (ExcN (some dx) a C)) s' := by
  have nd : H dx = none := by rw [hd]; exact I.hok.fresh (Nat.le_refl _)
  have nea : ∀ b u, H b = some u → (∀ φ, u ≠ .ext φ) → b ≠ a := fun b u hb hu z => by subst z; rw [e] at hb; exact hu _ (Option.some.inj hb).symm
  have ned : ∀ b u, H b = some u → b ≠ dx := fun b u hb z => by rw [z, nd] at hb; cases hb
  have up : ∀ b u, H b = some u → (∀ φ, u ≠ .ext φ) → upd (upd H dx (.xd [(f, y)])) a (ExcN (some dx) a C) b = some u := fun b u hb hu => by rw [upd_ne (nea b u hb hu), upd_ne (ned b u hb)]; exact hb
  have off : ∀ b o, s.heap.get? b = some o → b ≠ dx := fun b o q z => by rw [z, hd] at q; exact Nat.lt_irrefl _ (Heap.lt_size q)
  have nb : ∀ b, H b = none → b ≠ a := fun b hb z => by rw [z, e] at hb; cases hb
  refine I.call' (s' := s') (ch := []) hos ⟨fun b o hb hn _ _ => k b o (nb b hn) hb, fun b o hb hn _ _ => ⟨o.slots, k b o (nb b hn) hb⟩, fun b o hb hn _ => ?_, fun b o hb _ => ?_, fun b xs hb => up b _ hb (by intro φ z; cases z), fun b o u hb => up b _ hb (by intro φ z; cases z), fun b ps hb => ⟨#[], by rw [up b _ hb (by intro φ z; cases z), Array.append_empty]⟩⟩ (fun c o hc' => ?_) hb (fun b hb => by cases hb)
  · rw [upd_ne (nb b hn), upd_ne (off b o hb)]; exact hn
  · by_cases z : b = a
    · subst z; exact ⟨_, ha⟩
    · exact ⟨o, k b o z hb⟩
  · by_cases hca : c = a
    · subst hca
      rw [upd_same] at hc'
      cases hc'
      exact excN_ok ha hc hv.1 hv.2
    · rw [upd_ne hca] at hc'
      by_cases hcd : c = dx
      · subst hcd
        rw [upd_same] at hc'
        cases hc'
        refine ⟨_, hn, fun g => ?_⟩
        by_cases hg : g = f
        · subst hg
          simp only [List.lookup, beq_self_eq_true, if_true]
          exact ru
        · simp only [List.lookup, beq_eq_false_iff_ne.mpr hg, if_neg hg]
          trivial
      · rw [upd_ne hcd] at hc'
        refine (I.hok c o hc').stay (fun d v hd' q => k d v ?_ q) (fun b q => up b _ q (by intro φ z; cases z)) fun b xs q => up b _ q (by intro φ z; cases z)
        rcases hd' with rfl | q'
        · exact hca
        · exact nea d _ q' (by intro φ z; cases z)
theorem ps_fld1 {o value : Expr} {f : Str} {pos pos' : Pos} {ta tv : TE} {C : Addr} (hs' : PySem.W.findIn X.K (.ref C) "__setattr__" = some (some (.builtin "object.__setattr__"))) (hp : ((PySem.W.clsIn X.K C).any fun cd => PySem.W.overVE cd.mro) = true) (hh : PySem.W.hasDictIn X.K C = true) (hn : NoAttr X.K C f)
    (ha : PE X o ta) (hv : PE X value tv) (hs : swapsWith value (some (.Attribute o f pos')) pos.line X.env = pure false) : PS X (.Assign [.Attribute o f pos'] value pos) (sFld1 C ta tv f) := by
  intro pins s σ H D I h
  refine plainObj_wpAny_Assign_Attribute (thn (hv pins s σ H _ I h) fun u s1 ⟨y, H1, I1, ry, q⟩ => thn (ha pins s1 σ H1 _ I1 q) fun ov s2 ⟨x, H2, I2, rx, a, ex, ea, q2⟩ => ?_) hs
  subst ex
  obtain rfl : ov = Value.ref a := rx
  obtain ⟨⟨o, vs, q1, ⟨q2', q3⟩, q4, q5⟩, _, _⟩ := (show ObjOk X.prog X.w H2 s2.heap a (ExcN none a C) from I2.hok a _ ea)
  have nc : PySem.W.notCls o = true := by unfold PySem.W.notCls; rw [q4]
  have J : PySem.W.InstAt s2.heap a o C none := ⟨q1, q2', nc, by rw [q3]; trivial⟩
  refine PySem.W.set_first I2.kIn J q3 (Obj.isFreed_of_fields q4) hs' hp hn hh fun h' e1 e2 e3 => ?_
  refine ⟨σ, _, Inv.firstDict (s' := { s2 with heap := h', toks := s2.toks + 2 }) I2 ea rfl I2.bare rfl e1 ⟨q2', rfl⟩ ⟨q4, q5⟩ e2 ry e3, q2 _ (I2.hok.fresh (Nat.le_refl _)) fun z => ?_⟩
  have := Heap.lt_size q1
  rw [← z] at this
  exact Nat.lt_irrefl _ this
end
/-- what such an __init__ does -/
def spInit (C : Addr) (f : Str) : Sp := fun vs H Q _ => ∃ a y, vs = [.ref a, y] ∧ H a = some (ExcN none a C) ∧ ∀ dx, H dx = none → dx ≠ a → Q .non (upd (upd H dx (.xd [(f, y)])) a (ExcN (some dx) a C))
/-- the class C with its __init__, run -/
structure InitCal (P : Program) (w : World) (K : PySem.W.Frag) (mg : Str → Option Value) (base : Heap) (k : Nat) (C : Addr) (bm : List Value) (f : Str) : Prop where
  ex : ∃ (fi : Addr) (qual : Str) (st : Stmt) (fd : FuncData) (ps : List Str), InitAt K C fi qual st bm ∧ FnOk P w K mg base CX0 k fi fd ps (spInit C f) ∧ Binds K fd ps []
  na : NoAttr K C f
theorem InitAt.cal {P : Program} {w : World} {K : PySem.W.Frag} {mg : Str → Option Value} {base : Heap} {k : Nat} {C fi : Addr} {qual : Str} {st : Stmt} {bm : List Value} {f x0 x1 : Str} {N : List Str} (x : InitAt K C fi qual st bm) (na : NoAttr K C f) (S : FnScope N [x0, x1] (defScope st))
    (bi : ∀ (kV doc pm : Value) (an : Option Addr) (cdv ct : Value) (a0 a1 : Value), bindArgs (PySem.W.fnOf "__init__" qual (defArgs st) (defBody st) (defScope st) .none kV doc pm an cdv ct) ⟨[a0, a1], []⟩ = pure [(x0, a0), (x1, a1)])
    (hbody : ∀ (f' : Addr) (cdv : Value) (A : Around) (outer : List Env) (s : Shared) (H : Hp) (vs : List V) (Q : VK) (E : XK), spInit C f vs H Q E →
      ∃ t, PSs (cxOf CX0 P w K mg base N qual (defScope st) f' cdv A outer s H E).nox (defBody st) t ∧ t { nx := fun _ H' => Q .non H', rt := Q } (start N vs) H) : InitCal P w K mg base (k + 1) C bm f := by
  obtain ⟨od, kV, doc, pm, an, cdv, ct, osl, lk, hcd⟩ := x.fn
  refine ⟨⟨fi, qual, st, _, _, x, fn_of lk hcd S (fun vs H Q E h => ?_) fun A outer s H vs Q E hr hsp => ?_, .all fun us hl => ?_⟩, na⟩
  · obtain ⟨a, y, rfl, _⟩ := h; rfl
  · obtain ⟨t, h, q⟩ := hbody fi cdv A outer s H vs Q E hsp
    exact ⟨t, h.nox, q⟩
  · match us, hl with
    | [a0, a1], _ => exact bi kV doc pm an cdv ct a0 a1
theorem InitCal.mono {P : Program} {w : World} {K : PySem.W.Frag} {mg : Str → Option Value} {base : Heap} {j k : Nat} {C : Addr} {bm : List Value} {f : Str} (c : InitCal P w K mg base j C bm f) (h : j ≤ k) : InitCal P w K mg base k C bm f := by
  obtain ⟨⟨fi, qual, st, fd, ps, x, F, b⟩, na⟩ := c
  exact ⟨⟨fi, qual, st, fd, ps, x, F.mono h, b⟩, na⟩
section
variable {X : Cx} {E : XK} {x f : Str} {C : Addr} {e : Expr} {es : List Expr} {t : TA} {np cpos pos : Pos} {bm : List Value} {k : Nat}
/-- raise C(y): an exception with a dict {f: y} flies -/
def tRaiseI (E : XK) (C : Addr) (f : Str) (t : TA) : TS := fun _ σ H => t σ H fun vs H1 => ∃ y, vs = [y] ∧ ∀ dx, H1 dx = none → E (.ref C) (some dx) (upd H1 dx (.xd [(f, y)]))
theorem ps_raiseI (c : InitCal X.prog X.w X.K X.mg X.base k C bm f) (hr : Room (k + 1) X.A) (F : Flies X E) (hc : X.calm = true) (hg : Gl X x) (hm : X.mg x = some (.ref C)) (ha : PA X (e :: es) t) (hdb : (x == ("__debug__" : Str)) = false := by decide)
    (he : starEach (e :: es) X.env = (false, eval e X.env) :: starEach es X.env := by rfl) (hpl : (backTo cpos (starEach es X.env)).any (·.1) = false := by rfl) :
    PS X (.Raise (some (.Call (.Name x np) (e :: es) [] cpos)) none pos) (tRaiseI E C f t) := by
  intro pins s σ H D I h
  obtain ⟨⟨fi, qual, st, fd, ps, ia, fo, bi⟩, na⟩ := c
  obtain ⟨N, nm, q, bs, hdct, sn, sub, ab, col, dd, k0, k1, k2, k3, k5, lk, ok, ni⟩ := ia.cl
  obtain ⟨od, kV, doc, pm, an, cdv, ct, osl, lf, _⟩ := ia.fn
  have KX := I.ok.mod.kin
  have hC := KX _ _ lk
  have hF := KX _ _ lf
  have hN : X.base.Ns N _ := .of_isNs (PySem.W.isNs_of_in KX ok)
  have hni := ns_at KX hN ni
  have T := PySem.W.tail_of_in KX ia.tail
  have call : wpAny (model X.prog X.w) X.A (eval (.Call (.Name x np) (e :: es) [] cpos) X.env) (fun v s₁ => ∃ e o, v = .ref e ∧ s₁.heap.get? C = some (excClassObj nm q C N bs bm hdct sn sub ab col dd k0 k1 k2 k3 k5 "ValueError.__new__") ∧
      s₁.heap.get? e = some o ∧ o.cls = .ref C ∧ (∃ vs, o.data = .fields vs ∧ vs[1]? = some .none) ∧ X.xe (.ref e) s₁) X.xe s := by
    refine wpAny_Call_Name_kw (ld_glob I hg hm ?_ hdb)
    refine PySem.W.callWith_K (h₀ := X.base) I.ok.mod.kin ia.kp (thn (ha cpos pins s σ H _ I h) fun us s1 ⟨vs, H1, I1, r, y, ey, q1⟩ => ⟨I1.kIn, ?_⟩) he hpl
    subst ey
    obtain ⟨u, rfl, ru⟩ : ∃ u, us = [u] ∧ RelV y u := by
      cases r with
      | cons r0 rn => cases rn with
        | nil => exact ⟨_, rfl, r0⟩
    obtain ⟨hp1, g1, d1, t1, os1⟩ := s1
    refine wpAny_call_exc_initT PySem.F.excBase_ValueError (T.keeps I1.bk) (I1.bk _ _ hC) (hN.keeps I1.bk) hni (I1.bk _ _ hF) rfl (fun h' a m => ?_) (by show 1 ≤ sizeLine; decide)
    have I2 := I1.madeExc m
    have nH : H1 a = none := I1.newH m.new
    have r2 : Vals [V.ref a, y] ([Value.ref a, u] ++ []) := .cons rfl (.cons ru .nil)
    have hsp : spInit C f [.ref a, y] (upd H1 a (ExcN none a C)) (fun v H2 => v = .non ∧ ∃ dx, H1 dx = none ∧ dx ≠ a ∧ H2 = upd (upd (upd H1 a (ExcN none a C)) dx (.xd [(f, y)])) a (ExcN (some dx) a C)) E0 :=
      ⟨a, y, rfl, upd_same, fun dx hd nd => ⟨rfl, dx, by rw [upd_ne nd] at hd; exact hd, nd, rfl⟩⟩
    have hl : ([Value.ref a, u] ++ []).length = ps.length := by rw [← r2.length]; exact fo.len _ _ _ _ hsp
    refine wpAny_call (codeAny_mono (fo.run _ X.stack _ _ ⟨[Value.ref a, u], []⟩ ([Value.ref a, u] ++ []) _ _ E0 (hr.make C [u] []) (I2.env0.make C [u] []) (bi _ [Value.ref a, u] I2.kIn hl) r2 hsp) fun rr s' hq' => ?_)
    cases rr with
    | error e => exact False.elim hq'
    | ok fl =>
      cases fl with
      | next => exact False.elim hq'
      | brk => exact False.elim hq'
      | cont => exact False.elim hq'
      | ret uu =>
        obtain ⟨v, H2, I3, rv, ev, dx, hdx, ndx, eH⟩ := I2.after hq'
        subst ev
        subst eH
        obtain ⟨⟨o, vs', q1', ⟨q2', q3⟩, q4, q5⟩, _, _⟩ := (show ObjOk X.prog X.w _ s'.heap a (ExcN (some dx) a C) from I3.hok a _ upd_same)
        have I4 := I3.drop (a := a) upd_same
        have eD : L2.drop (upd (upd (upd H1 a (ExcN none a C)) dx (.xd [(f, y)])) a (ExcN (some dx) a C)) a = upd H1 dx (.xd [(f, y)]) := by
          funext b
          by_cases z : b = a
          · subst z; rw [drop_same, upd_ne (Ne.symm ndx), nH]
          · rw [drop_ne z, upd_ne z]
            by_cases z2 : b = dx
            · subst z2; rw [upd_same, upd_same]
            · rw [upd_ne z2, upd_ne z2, upd_ne z]
        rw [eD] at I4
        refine ⟨rv, a, o, rfl, I3.bk _ _ hC, q1', q2', ⟨vs', q4, q5⟩, ?_⟩
        have ne : X.s₀.heap.get? a = none ∧ (upd H1 dx (.xd [(f, y)])) a = none := ⟨I1.new0 F m.new, by rw [upd_ne (Ne.symm ndx)]; exact nH⟩
        refine F.xe _ _ ?_
        refine leave_first (base := X.base) (outer := X.outer) (s := s') (by rw [I.ok.frames, F.stk.1]) (by rw [← F.stk.1]; exact I4.stack) F.stk.2 q1' q3 q4 q5 fun h' T' nT tr kp => ?_
        rw [q2'] at tr
        exact Inv.left (s := s') (h1 := s'.heap) (h' := h') I4 F (fun _ _ e => e) (fun b hb => by rw [List.mem_singleton.mp hb]; exact ne) kp ne ⟨I4.new0 F nT, I4.newH nT⟩ tr (q1 dx hdx)
  rw [arm_exec_Raise]
  refine wpAny_bind (wpAny_standAt (raiseStmt_own (C := C) (nm := nm) (q := q) (N := N) (bs := bs) (bm := bm) (hdct := hdct) (sn := sn) (sub := sub) (ab := ab) (col := col) (dd := dd) (k0 := k0) (k1 := k1) (k2 := k2) (k3 := k3) (k5 := k5) (newId := "ValueError.__new__") (T.hasType PySem.F.excBase_ValueError.hasBase) (I.ok.hd hc) (wpAny_bind (wpAny_mono call (fun v s₃ h₃ => wpAny_bind (wpAny_standAt (wpAny_pure h₃))) fun _ _ x => x))))
end
end L2

set_option maxHeartbeats 4000000
namespace L2
open PySem PySem.Spec PyProof.Rows Fx
section
variable {X : Cx}
/-- the name of a class of the text -/
theorem pe_own {x : Str} {C : Addr} {pos : Pos} (hg : Gl X x) (hm : X.mg x = some (.ref C)) (hd : (x == ("__debug__" : Str)) = false := by decide) : PE X (.Name x pos) (tC (.ref C)) :=
  fun _ _ _ H _ I h => ld_glob I hg hm ⟨.ref C, H, I, rfl, h⟩ hd
end
/-! ### calls of defs that may raise -/
structure CalX (P : Program) (w : World) (K : PySem.W.Frag) (mg : Str → Option Value) (base : Heap) (k : Nat) (x : Str) (ps : List Str) (sp : Sp) : Prop where
  ex : ∃ f fd, FnOk P w K mg base (CX2 P w) k f fd ps sp ∧ Binds K fd ps [] ∧ PySem.W.keepIn K (.ref f) = true ∧ mg x = some (.ref f)
theorem CalX.mono {P : Program} {w : World} {K : PySem.W.Frag} {mg : Str → Option Value} {base : Heap} {j k : Nat} {x : Str} {ps : List Str} {sp : Sp} (c : CalX P w K mg base j x ps sp) (h : j ≤ k) : CalX P w K mg base k x ps sp :=
  let ⟨f, fd, F, b, kp, m⟩ := c.ex
  ⟨f, fd, F.mono h, b, kp, m⟩
section
variable {X : Cx} {k : Nat} {x : Str} {ps : List Str} {sp : Sp} {p pos : Pos} {e : Expr} {es : List Expr} {t : TA} {E : XK}
/-- its exceptions pass on -/
theorem pe_calX (c : CalX X.prog X.w X.K X.mg X.base k x ps sp) (hx : Passes (CX2 X.prog X.w) X E) (hr : Room k X.A) (hg : Gl X x) (ha : PA X (e :: es) t) (hdb : (x == ("__debug__" : Str)) = false := by decide)
    (he : starEach (e :: es) X.env = (false, eval e X.env) :: starEach es X.env := by rfl) (hpl : (backTo pos (starEach es X.env)).any (·.1) = false := by rfl) : PE X (.Call (.Name x p) (e :: es) [] pos) (tCall sp [] E t) := by
  obtain ⟨f, fd, F, b, kp, m⟩ := c.ex
  exact pe_call F hr hg m kp b .nil hx ha hdb he hpl
/-- where none comes -/
theorem passN : Passes (CX2 X.prog X.w) X E0 := fun _ _ _ _ _ _ _ ⟨_, _, _, _, _, _, _, _, _, _, _, _, _, _, _, z⟩ => z.elim
/-- in a try's body, begun at σ0 -/
def tCallT (σ0 : St) (sp : Sp) (E : XK) (t : TA) : TE := fun σ H Q => t σ H fun vs H1 => σ = σ0 ∧ sp vs H1 Q E
theorem pe_calT {pins : List (Addr × Obj)} {σ0 : St} (c : CalX X.prog X.w X.K X.mg X.base k x ps sp) (hr : Room k X.A) (hg : Gl X x) (ha : PA (Xt X pins σ0 E) (e :: es) t) (hdb : (x == ("__debug__" : Str)) = false := by decide)
    (he : starEach (e :: es) X.env = (false, eval e X.env) :: starEach es X.env := by rfl) (hpl : (backTo pos (starEach es X.env)).any (·.1) = false := by rfl) : PE (Xt X pins σ0 E) (.Call (.Name x p) (e :: es) [] pos) (tCallT σ0 sp E t) := by
  obtain ⟨f, fd, F, b, kp, m⟩ := c.ex
  intro p2 s σ H Q I h
  refine wpAny_Call_Name_kw (ld_glob I hg m ?_ hdb)
  refine PySem.W.callWith_K (h₀ := X.base) I.ok.mod.kin kp (thn (ha pos p2 s σ H _ I h) fun us s1 ⟨vs, H1, I1, r, e1, q⟩ => ⟨I1.kIn, ?_⟩) he hpl
  subst e1
  have hl : us.length = ps.length := by rw [← r.length]; exact F.len _ _ _ _ q
  have b2 := b s1 us I1.kIn (by rw [List.append_nil]; exact hl)
  rw [List.append_nil] at b2
  refine wpAny_call (codeAny_mono (F.run X.A X.stack s1 H1 ⟨us, []⟩ us vs Q E hr I1.env0 b2 r q) fun r s' hq => ?_)
  cases r with
  | error e => exact ⟨H1, s1, I1.ofXt, hq⟩
  | ok fl =>
    cases fl with
    | ret u => exact I1.after hq
    | next => exact False.elim hq
    | brk => exact False.elim hq
    | cont => exact False.elim hq
end
section
variable {P : Program} {w : World} {K : PySem.W.Frag} {mg : Str → Option Value} {base : Heap}
theorem Cal.x {k : Nat} {x : Str} {ps : List Str} {sp : Sp} (c : Cal P w K mg base k x ps sp) : CalX P w K mg base k x ps sp :=
  let ⟨f, fd, F, b, kp, m⟩ := c.ex
  ⟨f, fd, F.calm, b, kp, m⟩
/-- THE RULE for a def that may raise -/
theorem FunAt.calX {x : Str} {st : Stmt} {dV : Value} {N ps : List Str} {k : Nat} {sp : Sp} (F : FunAt K x st dV) {h : Heap} (X : K.In h) (G : h.Ns mainGlobals mg) (S : FnScope N ps (defScope st)) (bi : BindsAll K x st dV ps) (len : ∀ vs H Q E, sp vs H Q E → vs.length = ps.length)
    (hbody : ∀ (f : Addr) (cdv : Value) (A : Around) (outer : List Env) (s : Shared) (H : Hp) (vs : List V) (Q : VK) (E : XK), Room k (A.deeper (envOfC x (defScope st) s.heap.objs.size f cdv)) → sp vs H Q E →
      ∃ t, PSs (cxOf (CX2 P w) P w K mg base N x (defScope st) f cdv A outer s H E) (defBody st) t ∧ t { nx := fun _ H' => Q .non H', rt := Q } (start N vs) H) : CalX P w K mg base (k + 1) x ps sp := by
  obtain ⟨f, oc, od, kV, doc, pm, an, cdv, ct, osl, lk, hcd, kp, ns⟩ := F.ex
  exact ⟨f, _, fn_of lk hcd S len fun A outer s H vs Q E hr hsp => hbody f cdv A outer s H vs Q E hr hsp, bi kV doc pm an cdv ct, kp, PySem.W.mg_of X G ns⟩
end
end L2

set_option maxHeartbeats 4000000
namespace L2
open PySem PySem.Spec PyProof.Rows Fx
/-- the class stands in the text, over bm -/
def ClsAt (K : PySem.W.Frag) (C : Addr) (bm : List Value) : Prop := ∃ N nm q bs hdct sn sub ab col dd k0 k1 k2 k3 k5, K.lookup C = some (excClassObj nm q C N bs bm hdct sn sub ab col dd k0 k1 k2 k3 k5 "ValueError.__new__")
theorem ExcAt.cls {K : PySem.W.Frag} {C : Addr} {bm : List Value} (x : ExcAt K C bm) : ClsAt K C bm := by
  obtain ⟨N, nm, q, bs, hdct, sn, sub, ab, col, dd, k0, k1, k2, k3, k5, l, _⟩ := x.ex
  exact ⟨N, nm, q, bs, hdct, sn, sub, ab, col, dd, k0, k1, k2, k3, k5, l⟩
theorem InitCal.cls {P : Program} {w : World} {K : PySem.W.Frag} {mg : Str → Option Value} {base : Heap} {k : Nat} {C : Addr} {bm : List Value} {f : Str} (c : InitCal P w K mg base k C bm f) : ClsAt K C bm := by
  obtain ⟨fi, qual, st, fd, ps, x, _⟩ := c.ex
  obtain ⟨N, nm, q, bs, hdct, sn, sub, ab, col, dd, k0, k1, k2, k3, k5, l, _⟩ := x.cl
  exact ⟨N, nm, q, bs, hdct, sn, sub, ab, col, dd, k0, k1, k2, k3, k5, l⟩
theorem InitCal.g {P : Program} {w : World} {K : PySem.W.Frag} {mg : Str → Option Value} {base : Heap} {k : Nat} {C : Addr} {bm : List Value} {f : Str} (c : InitCal P w K mg base k C bm f) : PySem.W.ExcG K C := by
  obtain ⟨fi, qual, st, fd, ps, x, _⟩ := c.ex
  exact x.g
section
variable {X : Cx} {E : XK} {pins : List (Addr × Obj)} {σ : St} {H : Hp} {s : Shared}
/-- one local is let go -/
theorem Inv.unset {h' : Heap} {m : Str → Option Value} {v : Option Value} {tk i : Nat} {n : Str} (I : Inv X pins σ H s) (hN : X.N.Nodup) (hi : X.N[i]? = some n) (hm : s.heap.Ns X.env.locals m)
    (hl : ∀ (i : Nat) (x : Str) (v : V), X.N[i]? = some x → σ[i]? = some (some v) → Vis X.env.scope x → ∃ u, RelV v u ∧ Look X.env s.heap m x u)
    (hn : h'.Ns X.env.locals (fun x => if x = n then v else m x)) (hs : Heap.SameBut X.env.locals s.heap h') : Inv X pins (σ.set i none) H { s with heap := h', toks := tk } := by
  have offL : ∀ b o, X.s₀.heap.get? b = some o → b ≠ X.env.locals := fun b o e => Nat.ne_of_lt (Nat.lt_of_lt_of_le (Heap.lt_size e) I.ok.above)
  have cne := I.cne
  refine ⟨I.ok, I.os, I.bare, ⟨fun b o e n hb nx => ?_, fun b o e n hb nx => ?_, I.base.free, fun b o e nx => ?_, I.base.tups, I.base.frzs, I.base.tbls⟩, ⟨_, hn, fun j y v' e1 e2 e3 => ?_⟩, fun x c e => ?_, I.free, I.freeC, fun p hp => ?_, fun b ob e => ?_, by rw [List.length_set]; exact I.len⟩
  · exact (hs.2 b (offL b o e)).trans (I.base.keep b o e n hb nx)
  · obtain ⟨sl, k1⟩ := I.base.slot b o e n hb nx
    exact ⟨sl, (hs.2 b (offL b o e)).trans k1⟩
  · obtain ⟨o', k1⟩ := I.base.there b o e nx
    exact ⟨o', (hs.2 b (offL b o e)).trans k1⟩
  · by_cases hj : j = i
    · subst hj
      by_cases hz : j < σ.length
      · rw [List.getElem?_set_self hz] at e2; cases e2
      · rw [List.getElem?_eq_none (by rw [List.length_set]; omega)] at e2; cases e2
    · rw [List.getElem?_set_ne (Ne.symm hj)] at e2
      obtain ⟨u', r', q⟩ := hl j y v' e1 e2 e3
      refine ⟨u', r', ?_⟩
      rcases q with ⟨k, e⟩ | ⟨k, c, e, z⟩
      · refine .inl ⟨k, ?_⟩
        have : y ≠ n := fun e => hj (nodup_ix hN e1 (e ▸ hi))
        simp [this, e]
      · exact .inr ⟨k, c, e, z.sameBut hs (cne y c e)⟩
  · obtain ⟨v, o, ho, hd⟩ := I.cell x c e
    exact ⟨v, o, (hs.2 c (I.cne x c e)).trans ho, hd⟩
  · obtain ⟨q1, q2, q3, q4, q5⟩ := I.pin p hp
    exact ⟨(hs.2 _ q3).trans q1, q2, q3, q4, q5⟩
  · refine (I.hok b ob e).stay (fun c w' hc q => (hs.2 c ?_).trans q) (fun _ q => q) fun _ _ q => q
    rintro rfl
    rcases hc with rfl | hc
    · rw [I.free] at e; cases e
    · rw [I.free] at hc; cases hc
/-- try, except C as n: the suite may go on or return -/
def tTryN (E : XK) (tb : St → TS) (th : TS) (i : Nat) : TS := fun D σ H => tb σ D σ H ∧ ∀ a cls di H', E cls di H' → H' a = none → th { nx := fun σ' H'' => D.nx (σ'.set i none) H'', rt := D.rt } (σ.set i (some (.ref a))) (upd H' a (ExcO di a cls))
theorem ps_tryN {st b₀ : Stmt} {suite : List Stmt} {cx n : Str} {C D : Addr} {i : Nat} {np hpos pos : Pos} {tb : St → TS} {th : TS} {bm bm' : List Value} (hst : X.stack = X.env :: X.outer ∧ X.env.frame = some X.env.locals) (hN : X.N.Nodup) (hi : X.N[i]? = some n) (hloc : X.env.scope.names.lookup n = some .local)
    (hg : Gl X cx) (hm : X.mg cx = some (.ref D)) (hC : ClsAt X.K C bm) (hD : ExcAt X.K D bm') (hsub : (Value.ref C :: bm).contains (.ref D) = true) (hE : ∀ cls di H', E cls di H' → cls = .ref C)
    (hb : ∀ pins σ, PSs (Xt X pins σ E) [st] (tb σ)) (hh : ∀ a, PSs (Xh X a) (b₀ :: suite) th) (hdb : (cx == ("__debug__" : Str)) = false := by decide) :
    PS X (.Try [st] [.ExceptHandler (some (.Name cx np)) (some n) (b₀ :: suite) hpos] [] [] pos) (tTryN E tb th i) := by
  intro pins s σ H D' I h
  obtain ⟨h1, h2⟩ := h
  refine wpAny_Try_except (wpAny_mono (hb pins σ [] s σ H D' I.toXt h1) (fun f s1 q => ?_) (fun e s1 q => ?_))
  · cases f with
    | next => obtain ⟨σ', H', I', q⟩ := q; exact wpAny_execs_nil ⟨σ', H', I'.ofXt, q⟩
    | brk => obtain ⟨σ', H', I', q⟩ := q; exact ⟨σ', H', I'.ofXt, q⟩
    | cont => obtain ⟨σ', H', I', q⟩ := q; exact ⟨σ', H', I'.ofXt, q⟩
    | ret u => obtain ⟨v, σ', H', I', r, q⟩ := q; exact ⟨v, σ', H', I'.ofXt, r, q⟩
  obtain ⟨H1, s0, I0, a, T, cls, di, H', rfl, os, bare, un, nsOk, tr, na, nT, ha, hT, q⟩ := q
  obtain rfl := hE cls di H' q
  have I1 : Inv X pins σ H' s1 := I0.call' (ch := []) os un nsOk bare (fun b hb => by cases hb)
  have hcls : X.env.kindOf n = some .local := hloc
  refine note_next (base := X.base) (outer := X.outer) (by rw [I.ok.frames, hst.1]) (by rw [← hst.1]; exact I1.stack) hst.2 tr fun h' T' nT' tr' kp => ?_
  have kp' : Kp (frs X.stack) [a, T] s1.heap h' := by rw [hst.1]; exact kp
  have I2 : Inv X pins σ (upd H' a (ExcO di a (.ref C))) { s1 with heap := h' } := I0.landed os bare un nsOk kp' na nT ha hT tr'
  obtain ⟨_, _, _, _, _, _, _, _, _, _, _, _, _, _, _, lC⟩ := hC
  obtain ⟨_, _, _, _, _, _, _, _, _, _, _, _, _, _, _, lD, _, _⟩ := hD.ex
  have TD := PySem.W.tail_of_in I2.kIn hD.tail
  obtain ⟨oe, vs, oT, ts, he, ⟨hc, _⟩, _⟩ := id tr'
  refine wpAny_handleBy_cons (codeAny_handlers_test (ld_glob (X := Xh X a) (I2.toXh (a := a)) hg hm ?_ hdb)) (by intro q; cases q)
  refine excMatches_base (I2.kIn _ _ lC) (I2.kIn _ _ lD) he hc (TD.hasType PySem.F.excBase_ValueError.hasBase) hsub ?_
  refine codeAny_handlers_suite_as ?_
  refine flight (s := { s1 with heap := h' }) tr' fun h3 tr3 same => ?_
  have kp3 : Kp (frs X.stack) [a, T] s1.heap h3 := by
    have ne : ∀ b o, s1.heap.get? b = some o → b ≠ T' := fun b o hb z => by rw [z, nT'] at hb; cases hb
    exact ⟨fun b o hb hf hx => (same b (ne b o hb)).trans (kp'.keep b o hb hf hx), fun b o hb hx => let ⟨slo, e⟩ := kp'.slot b o hb hx; ⟨slo, (same b (ne b o hb)).trans e⟩, fun b o hb => let ⟨o', e⟩ := kp'.there b o hb; ⟨o', (same b (ne b o hb)).trans e⟩⟩
  have I3 : Inv X pins σ (upd H' a (ExcO di a (.ref C))) { s1 with heap := h3 } := I0.landed os bare un nsOk kp3 na nT ha hT tr3
  refine store_ok (X := Xh X a) (v := .ref a) (I3.toXh (a := a)) hN hi (.inl hloc) rfl (fun s4 I4 => ?_) (.inr hloc)
  refine wpAny_mono (hh a pins s4 _ _ _ I4 (h2 a _ di H' q ha)) (fun f s5 q5 => ?_) (fun x s5 z => z.elim)
  cases f with
  | next =>
    obtain ⟨σ', H5, I5, q6⟩ := q5
    obtain ⟨m, hn, hl⟩ := id I5.loc
    refine wpAny_nameGoes_keeps hcls hn (by rw [I.ok.kind]; rfl) fun h6 v6 hn6 hs6 => ?_
    exact ⟨_, H5, (I5.ofXh I.ok).unset hN hi hn hl hn6 hs6, q6⟩
  | brk => obtain ⟨_, _, _, z⟩ := q5; exact z.elim
  | cont => obtain ⟨_, _, _, z⟩ := q5; exact z.elim
  | ret u =>
    obtain ⟨v, σ', H5, I5, r, q6⟩ := q5
    obtain ⟨m, hn, _⟩ := id I5.loc
    refine wpAny_nameGoes hcls hn (by rw [I.ok.kind]; rfl) fun h6 m6 hn6 hs6 => ?_
    exact ⟨v, _, H5, (I5.ofXh I.ok).blank hn6 hs6, r, q6⟩
end
/-! in a suite behind except -/
theorem call_isinstEH {X : Cx} {e : Addr} : CallR (Xh X e) (.builtin "isinstance") (fun xs H Q => ∃ a di C c cv b, xs = [.ref a, c] ∧ H a = some (ExcO di a (.ref C)) ∧ Dx H di ∧ PySem.W.ExcG X.K C ∧ clV c = some cv ∧ PySem.W.kitOne X.K (.ref C) cv = some b ∧ Q (.bl b) H) := call_isinstE
theorem pe_fldEH {X : Cx} {a : Addr} {e : Expr} {f : Str} {pos : Pos} {ta : TE} (he : PE (Xh X a) e ta) (hb : attributeBase e f X.env (eval e X.env) = eval e X.env) : PE (Xh X a) (.Attribute e f pos) (tFldE X.K ta f) := pe_fldE he hb
end L2

set_option maxHeartbeats 4000000
namespace K55S
open PySem PySem.Spec PyProof.Rows L2 Ba Am Pc M71
open K73 (top Bs)
open M72 (VOk)
open M75 (Mk mvd mvds Br)
open M77 (pmk pmk_len pmk_get bk)
abbrev MksAt (K : PySem.W.Frag) (H : Hp) (l : Addr) (ps : List Addr) (ms : List Mk) : Prop := H l = some (.lst (ps.map V.ref)) ∧ Paired (fun p m => SqT K H p (mkL m)) ps ms
def spPlain (K : PySem.W.Frag) : Sp := fun vs H Q _ => ∃ c : Nat, vs = [.int c] ∧ c ≤ 6 ∧ ∀ (l : Addr) (H' : Hp) (ps : List Addr), H l = none → Same H H' → MksAt K H' l ps (pmk c) → Q (.ref l) H'
def spImg (K : PySem.W.Frag) : Sp := fun vs H Q _ => ∃ (lr : Addr) (row : List Mv) (c : Nat), vs = [.ref lr, .int c] ∧ RowAt H lr row ∧ c ≤ 6 ∧ (∀ x ∈ row, VOk c x) ∧ (∀ x ∈ row, Br x) ∧ row.length ≤ 200 ∧ ∀ (l : Addr) (H' : Hp) (ps : List Addr), H l = none → Same H H' → MksAt K H' l ps ((pmk c).map (mvds row)) → Q (.ref l) H'
/-- the first place where two rows of marks are not the same -/
def dif : List Mk → List Mk → List Mk → Option Mk
  | a :: as, b :: bs, m :: ms => if a = b then dif as bs ms else some m
  | _, _, _ => none
def OptAt (K : PySem.W.Frag) (H : Hp) (v : V) : Option Mk → Prop
  | none => v = .non
  | some m => ∃ p, v = .ref p ∧ SqT K H p (mkL m)
def spUnlike (K : PySem.W.Frag) : Sp := fun vs H Q _ => ∃ (lr lo : Addr) (row oth : List Mv) (c : Nat), vs = [.ref lr, .ref lo, .int c] ∧ RowAt H lr row ∧ RowAt H lo oth ∧ c ≤ 6 ∧ (∀ x ∈ row, VOk c x) ∧ (∀ x ∈ row, Br x) ∧ row.length ≤ 200 ∧ (∀ x ∈ oth, VOk c x) ∧ (∀ x ∈ oth, Br x) ∧ oth.length ≤ 200 ∧
  ∀ (v : V) (H' : Hp), Same H H' → OptAt K H' v (dif ((pmk c).map (mvds row)) ((pmk c).map (mvds oth)) (pmk c)) → Q v H'
theorem pmk_ok : ∀ {c : Nat} {m : Mk}, m ∈ pmk c → OkK c m
  | c + 1, m, h => by
    have h : m ∈ pmk c ++ [(0, 2 ^ c, 0), (0, 0, 2 ^ c)] := h
    have lt : 2 ^ c < 2 ^ (c + 1) := Nat.pow_lt_pow_right (by decide) (Nat.lt_succ_self c)
    rcases List.mem_append.mp h with h | h
    · have := pmk_ok h
      exact ⟨this.k, Nat.lt_trans this.f lt, Nat.lt_trans this.s lt⟩
    · have p := Nat.two_pow_pos (c + 1)
      rcases List.mem_cons.mp h with rfl | h
      · exact ⟨(show 0 < 4 by decide), lt, p⟩
      · rw [List.mem_singleton.mp h]
        exact ⟨(show 0 < 4 by decide), p, lt⟩
theorem dif_same : ∀ {as ms : List Mk}, dif as as ms = none
  | [], _ => rfl
  | _ :: _, [] => rfl
  | a :: as, m :: ms => by
    show (if a = a then dif as as ms else some m) = none
    rw [if_pos rfl]
    exact dif_same
theorem dif_at : ∀ {as bs ms : List Mk} {i : Nat} {a b m : Mk}, as.take i = bs.take i → as[i]? = some a → bs[i]? = some b → ms[i]? = some m → a ≠ b → dif as bs ms = some m
  | x :: as, y :: bs, z :: ms, 0, a, b, m, _, h1, h2, h3, n => by
    cases (by simpa using h1 : x = a); cases (by simpa using h2 : y = b); cases (by simpa using h3 : z = m)
    show (if x = y then dif as bs ms else some z) = some z
    rw [if_neg n]
  | x :: as, y :: bs, z :: ms, i + 1, a, b, m, t, h1, h2, h3, n => by
    rw [List.take_succ_cons, List.take_succ_cons] at t
    obtain ⟨e, t⟩ := List.cons.inj t
    show (if x = y then dif as bs ms else some z) = some m
    rw [if_pos e]
    exact dif_at t (by simpa using h1) (by simpa using h2) (by simpa using h3) n
theorem ipw (c : Nat) : (1 : Int) * 2 ^ ((c : Int).toNat) = ((2 ^ c : Nat) : Int) := by rw [Int.one_mul, Int.toNat_natCast, Int.natCast_pow]; rfl
theorem mkL_inj {a b : Mk} (h : ([(a.1 : Int), (a.2.1 : Int), (a.2.2 : Int)] : List Int) = [(b.1 : Int), (b.2.1 : Int), (b.2.2 : Int)]) : a = b := by
  obtain ⟨a1, a2, a3⟩ := a
  obtain ⟨b1, b2, b3⟩ := b
  obtain ⟨e1, h⟩ := List.cons.inj h
  obtain ⟨e2, h⟩ := List.cons.inj h
  obtain ⟨e3, _⟩ := List.cons.inj h
  have e1 : (a1 : Int) = b1 := e1
  have e2 : (a2 : Int) = b2 := e2
  have e3 : (a3 : Int) = b3 := e3
  cases Int.ofNat.inj e1; cases Int.ofNat.inj e2; cases Int.ofNat.inj e3
  rfl
section
variable {P : Program} {w : World} {K : PySem.W.Frag} {mg : Str → Option Value} {base : Heap} {k : Nat} {h : Heap}
theorem sc_plain : FnScope ["cells", "marks", "cell"] ["cells"] (defScope (top 47)) := ⟨rfl, rfl, rfl, by decide +kernel, rfl, by decide +kernel, by decide +kernel⟩
theorem ok_plain (F : FunAt K "plain_marks" (top 47) .none) (X : K.In h) (G : h.Ns mainGlobals mg) (B : Bs mg) : Cal P w K mg base (k + 1) "plain_marks" ["cells"] (spPlain K) := by
  have nd := sc_plain.nd
  refine F.cal X G sc_plain (bnd1 fun _ _ _ _ _ _ _ => rfl) (fun vs H Q E h => ?_) (fun f cdv A outer s H vs Q E hr h => ?_)
  · obtain ⟨c, rfl, _⟩ := h; rfl
  obtain ⟨c, rfl, c6, q⟩ := h
  refine ⟨_, (@pss_cons _ _ _ _ _ (@ps_set _ _ 1 _ _ _ _ nd rfl (Or.inl rfl) (@pe_lst _ _ _ _ pa_nil) rfl (.inl rfl))
    (@pss_cons _ _ _ _ _ (ps_for PassesOwn.never rfl (pi_range1 rfl B.range (pa_cons (pv 0) pa_nil)) (pg_name (i := 2) nd rfl (Or.inl rfl))
      (@pss_one _ _ _ (ps_expr (pe_bm PySem.F.plainAttrs_list PySem.F.slot_list_extend PySem.F.type_list_extend mt_extend (pv 1) (pa_cons (@pe_lst _ _ _ _ (pa_cons (@pe_tup _ _ _ _ _ (pa_cons pe_int (pa_cons (pe_op op_shlS pe_int (pv 2)) (pa_cons pe_int pa_nil)))) (pa_cons (@pe_tup _ _ _ _ _ (pa_cons pe_int (pa_cons pe_int (pa_cons (pe_op op_shlS pe_int (pv 2)) pa_nil)))) pa_nil))) pa_nil)))))
    (@pss_one _ _ _ (ps_ret (pv 1))))), ?_⟩
  try dsimp only [cxK]
  refine ⟨Nat.zero_le _, fun l hl => ?_⟩
  refine ⟨_, rfl, _, rfl, by omega, by omega, ?_⟩
  rw [Int.toNat_natCast]
  refine for_range (n := c) (fun j σ H' => ∃ (ps : List Addr) (v : Option V), Same H H' ∧ MksAt K H' l ps (pmk j) ∧ σ = [some (.int c), some (.ref l), v])
    ⟨[], none, same_new hl _, ⟨upd_same, .nil⟩, rfl⟩ ?_ ?_
  · rintro j σ H1 hj ⟨ps, v, S1, ⟨h1, P1⟩, rfl⟩
    have e1 : [V.int 0, V.int (1 * 2 ^ ((0 + (j : Int)).toNat)), V.int 0] = mkL (0, 2 ^ j, 0) := by rw [Int.zero_add, ipw j]; rfl
    have e2 : [V.int 0, V.int 0, V.int (1 * 2 ^ ((0 + (j : Int)).toNat))] = mkL (0, 0, 2 ^ j) := by rw [Int.zero_add, ipw j]; rfl
    have pl := pm_len P1
    rw [pmk_len] at pl
    refine ⟨_, rfl, .inl ⟨rfl, _, SqL.of h1⟩, _, rfl, _, _, rfl, rfl, ⟨1, sz1, by omega, by omega⟩, t3, fun t1 ht1 => ?_⟩
    rw [e1]
    have s2 := same_new ht1 (.tup (mkL (0, 2 ^ j, 0)))
    have q2 : upd H1 t1 (.tup (mkL (0, 2 ^ j, 0))) t1 = some (.tup (mkL (0, 2 ^ j, 0))) := upd_same
    generalize upd H1 t1 (.tup (mkL (0, 2 ^ j, 0))) = H2 at s2 q2 ⊢
    refine ⟨_, rfl, _, _, rfl, rfl, ⟨1, sz1, by omega, by omega⟩, t3, fun t2' ht2 => ?_⟩
    rw [e2]
    have s3 := same_new ht2 (.tup (mkL (0, 0, 2 ^ j)))
    have q3 : upd H2 t2' (.tup (mkL (0, 0, 2 ^ j))) t2' = some (.tup (mkL (0, 0, 2 ^ j))) := upd_same
    generalize upd H2 t2' (.tup (mkL (0, 0, 2 ^ j))) = H3 at s3 q3 ⊢
    refine ⟨t2, fun l2 hl2 => ?_⟩
    have s4 := same_new hl2 (.lst [V.ref t1, V.ref t2'])
    have q4 : upd H3 l2 (.lst [V.ref t1, V.ref t2']) l2 = some (.lst [V.ref t1, V.ref t2']) := upd_same
    generalize upd H3 l2 (.lst [V.ref t1, V.ref t2']) = H4 at s4 q4 ⊢
    have T4 := (s2.trans s3).trans s4
    have h4 := T4 _ _ h1
    refine ⟨l, l2, _, _, rfl, rfl, h4, q4, ?_, ?_⟩
    · rw [List.length_map, pl]
      exact Nat.le_trans (show 2 * j + 2 ≤ 100 by omega) (by decide)
    refine ⟨ps ++ [t1, t2'], some (.int (0 + j)), same_upd (S1.trans T4) hl, ⟨by rw [upd_same, List.map_append]; rfl, ?_⟩, rfl⟩
    show Paired _ (ps ++ [t1, t2']) (pmk j ++ [(0, 2 ^ j, 0), (0, 0, 2 ^ j)])
    have := pm_snoc (F := fun p m => SqT K (upd H4 l (.lst (ps.map V.ref ++ [V.ref t1, V.ref t2']))) p (mkL m)) (pm_snoc (F := fun p m => SqT K (upd H4 l (.lst (ps.map V.ref ++ [V.ref t1, V.ref t2']))) p (mkL m)) (pm_imp (fun _ _ e => sqT_upd (T4.tup e) h4) P1) (sqT_upd (SqT.of ((s3.trans s4) _ _ q2)) h4)) (sqT_upd (SqT.of (s4 _ _ q3)) h4)
    rw [List.append_assoc, List.append_assoc] at this
    exact this
  · rintro σ H1 ⟨ps, v, S1, M1, rfl⟩
    exact ⟨_, rfl, q l H1 ps hl S1 M1⟩
theorem sc_img : FnScope ["row", "cells"] ["row", "cells"] (defScope (top 46)) := ⟨rfl, rfl, rfl, by decide +kernel, rfl, by decide +kernel, by decide +kernel⟩
theorem ok_img (F : FunAt K "images" (top 46) .none) (X : K.In h) (G : h.Ns mainGlobals mg) (c_moved_rows : Cal P w K mg base k "moved_rows" ["rows", "row"] (spRowsM K)) (c_plain_marks : Cal P w K mg base k "plain_marks" ["cells"] (spPlain K)) : Cal P w K mg base (k + 1) "images" ["row", "cells"] (spImg K) := by
  have nd := sc_img.nd
  refine F.cal X G sc_img (bnd2 fun _ _ _ _ _ _ _ _ => rfl) (fun vs H Q E h => ?_) (fun f cdv A outer s H vs Q E hr h => ?_)
  · obtain ⟨lr, row, c, rfl, _⟩ := h; rfl
  obtain ⟨lr, row, c, rfl, R, c6, ok, br, l200, q⟩ := h
  refine ⟨_, (@pss_one _ _ _ (ps_ret (pe_cal c_moved_rows hr rfl (pa_cons (pe_cal c_plain_marks hr rfl (pa_cons (pv 1) pa_nil)) (pa_cons (pv 0) pa_nil))))), ?_⟩
  try dsimp only [cxK]
  refine ⟨_, rfl, c, rfl, c6, fun l H1 ps nl S1 M1 => ?_⟩
  refine ⟨_, rfl, l, lr, ps, pmk c, row, c, rfl, SqL.of M1.1, M1.2, by rw [pmk_len]; omega, R.same S1, fun m hm => pmk_ok hm, c6, ok, br, l200, fun r H2 qs nr S2 h2 P2 => q r H2 qs (fresh_of S1 nr) (S1.trans S2) ⟨h2, P2⟩⟩
theorem sc_unl : FnScope ["row", "other", "cells", "by_row", "by_other", "place", "mark"] ["row", "other", "cells"] (defScope (top 48)) := ⟨rfl, rfl, rfl, by decide +kernel, rfl, by decide +kernel, by decide +kernel⟩
theorem ok_unl (F : FunAt K "unlike" (top 48) .none) (X : K.In h) (G : h.Ns mainGlobals mg) (B : Bs mg) (c_images : Cal P w K mg base k "images" ["row", "cells"] (spImg K)) (c_plain_marks : Cal P w K mg base k "plain_marks" ["cells"] (spPlain K)) : Cal P w K mg base (k + 1) "unlike" ["row", "other", "cells"] (spUnlike K) := by
  have nd := sc_unl.nd
  refine F.cal X G sc_unl (bnd3 fun _ _ _ _ _ _ _ _ _ => rfl) (fun vs H Q E h => ?_) (fun f cdv A outer s H vs Q E hr h => ?_)
  · obtain ⟨lr, lo, row, oth, c, rfl, _⟩ := h; rfl
  obtain ⟨lr, lo, row, oth, c, rfl, R, O, c6, ok, br, l200, ok2, br2, l2, q⟩ := h
  refine ⟨_, (@pss_cons _ _ _ _ _ (@ps_set _ _ 3 _ _ _ _ nd rfl (Or.inl rfl) (pe_cal c_images hr rfl (pa_cons (pv 0) (pa_cons (pv 2) pa_nil))) rfl (.inl rfl))
    (@pss_cons _ _ _ _ _ (@ps_set _ _ 4 _ _ _ _ nd rfl (Or.inl rfl) (pe_cal c_images hr rfl (pa_cons (pv 1) (pa_cons (pv 2) pa_nil))) rfl (.inl rfl))
    (@pss_cons _ _ _ _ _ (ps_for PassesOwn.never rfl (pi_enum rfl B.enumerate (pa_cons (pe_cal c_plain_marks hr rfl (pa_cons (pv 2) pa_nil)) pa_nil)) (@pg_tup _ _ _ _ _ _ rfl (@pgs_cons _ _ _ _ _ (@pg_name _ _ 5 _ nd rfl (Or.inl rfl) (by first | exact .inl rfl | exact .inr rfl)) (@pgs_cons _ _ _ _ _ (@pg_name _ _ 6 _ nd rfl (Or.inl rfl) (by first | exact .inl rfl | exact .inr rfl)) pgs_nil rfl) rfl) rfl rfl)
      (@pss_one _ _ _ (ps_if (pt_cmpR (op_neTI hr.units) (pe_ix ix_list (pv 3) (pv 5) (fun _ _ => rfl)) (pe_ix ix_list (pv 4) (pv 5) (fun _ _ => rfl)) (nomark _))
        (@pss_one _ _ _ (ps_ret (pv 6)))
        pss_nil)))
    (@pss_one _ _ _ (ps_ret pe_non))))), ?_⟩
  try dsimp only [cxK]
  refine ⟨_, rfl, _, rfl, lr, row, c, rfl, R, c6, ok, br, l200, fun la H1 pa na S1 M1 => ?_⟩
  refine ⟨_, rfl, _, rfl, lo, oth, c, rfl, O.same S1, c6, ok2, br2, l2, fun lb H2 pb nb S2 M2 => ?_⟩
  refine ⟨_, rfl, c, rfl, c6, fun lp H3 pp np S3 M3 => ?_⟩
  have S23 := S2.trans S3
  have S13 := S1.trans S23
  have SP : SqL K H3 lp (pp.map V.ref) := SqL.of M3.1
  have la3 := S23 _ _ M1.1
  have lb3 := S3 _ _ M2.1
  have P1 := pm_imp (fun _ _ e => S23.tup e) M1.2
  have P2 := pm_imp (fun _ _ e => S3.tup e) M2.2
  have l1 := pm_len P1
  have l2' := pm_len P2
  have l3 := pm_len M3.2
  rw [List.length_map, pmk_len] at l1 l2'
  rw [pmk_len] at l3
  refine ⟨lp, _, rfl, SP, for_enum (K := K) (a := lp) (xs := pp.map V.ref) (fun i σ H' => Same H3 H' ∧ ((pmk c).map (mvds row)).take i = ((pmk c).map (mvds oth)).take i ∧ ∃ (v1 v2 : Option V), σ = [some (.ref lr), some (.ref lo), some (.int c), some (.ref la), some (.ref lb), v1, v2])
    ⟨Same.refl _, rfl, none, none, rfl⟩ (fun i σ H' _ e => e.1.seq SP) ?_ ?_⟩
  · rintro i x σ H4 T hx ⟨S4, eq, v1, v2, rfl⟩ hT
    rw [List.getElem?_map] at hx
    obtain ⟨p, hp, rfl⟩ := Option.map_eq_some_iff.mp hx
    obtain ⟨m, hm, em⟩ := pm_get M3.2 hp
    have il : i < pp.length := (List.getElem?_eq_some_iff.mp hp).1
    have ia : pa[i]? = some (pa[i]'(by omega)) := List.getElem?_eq_getElem (by omega)
    have ib : pb[i]? = some (pb[i]'(by omega)) := List.getElem?_eq_getElem (by omega)
    generalize pa[i]'(by omega) = a at ia
    generalize pb[i]'(by omega) = b at ib
    obtain ⟨ma, hma, ea⟩ := pm_get P1 ia
    obtain ⟨mb, hmb, eb⟩ := pm_get P2 ib
    have S5 := S4.trans (same_new hT (.tup [.int i, .ref p]))
    refine ⟨T, _, rfl, SqT.of upd_same, rfl, _, _, rfl, _, _, rfl, rfl, ?_⟩
    generalize upd H4 T (.tup [.int i, .ref p]) = H5 at S5 ⊢
    refine ⟨_, rfl, _, rfl, la, _, _, .ref a, rfl, rfl, SqL.of (S5 _ _ la3), atI_nat (by rw [List.getElem?_map, ia]; rfl), _, rfl, _, rfl, lb, _, _, .ref b, rfl, rfl, SqL.of (S5 _ _ lb3), atI_nat (by rw [List.getElem?_map, ib]; rfl), a, b, [(ma.1 : Int), (ma.2.1 : Int), (ma.2.2 : Int)], [(mb.1 : Int), (mb.2.1 : Int), (mb.2.2 : Int)], rfl, rfl, S5.tup ea, S5.tup eb, _, rfl, ?_⟩
    by_cases hab : ma = mb
    · subst hab
      rw [decide_eq_true rfl]
      refine iteF ⟨S5, ?_, _, _, rfl⟩
      rw [List.take_add_one, List.take_add_one, eq, hma, hmb]
    · rw [decide_eq_false (fun z => hab (mkL_inj z))]
      refine iteT ⟨_, rfl, q _ _ (S13.trans S5) ?_⟩
      rw [dif_at eq hma hmb hm hab]
      exact ⟨p, rfl, S5.tup em⟩
  · rintro σ H4 ⟨S4, eq, v1, v2, rfl⟩
    refine q _ _ (S13.trans S4) ?_
    rw [List.length_map, l3, List.take_of_length_le (by rw [List.length_map, pmk_len]; exact Nat.le_refl _), List.take_of_length_le (by rw [List.length_map, pmk_len]; exact Nat.le_refl _)] at eq
    rw [eq, dif_same]
    exact rfl
end
end K55S

set_option maxHeartbeats 4000000
namespace K55S
open PySem PySem.Spec PyProof.Rows L2 Ba Am Pc M71
open K73 (top Bs)
open M72 (VOk)
open M75 (Mk mvd mvds Br)
open M77 (pmk pmk_len)
set_option genInjectivity false in
set_option genSizeOf false in
structure Exs (K : PySem.W.Frag) (mg : Str → Option Value) (C D : Addr) (bm bm' : List Value) where
  mC : mg "NotBorne" = some (.ref C)
  mD : mg "BoardError" = some (.ref D)
  mV : mg "ValueError" = none
  xD : ExcAt K D bm'
  sub : (Value.ref C :: bm).contains (.ref D) = true
  own : PySem.W.kitOne K (.ref C) (.ref C) = some true
  ve : PySem.W.kitOne K (.ref C) (.type "ValueError") = some true
  a_NoCell : Addr
  mo_NoCell : mg "NoCell" = some (.ref a_NoCell)
  kn_NoCell : PySem.W.kitOne K (.ref C) (.ref a_NoCell) = some false
  a_NoMove : Addr
  mo_NoMove : mg "NoMove" = some (.ref a_NoMove)
  kn_NoMove : PySem.W.kitOne K (.ref C) (.ref a_NoMove) = some false
  a_NoTable : Addr
  mo_NoTable : mg "NoTable" = some (.ref a_NoTable)
  kn_NoTable : PySem.W.kitOne K (.ref C) (.ref a_NoTable) = some false
theorem boot_VE : bootBuiltins "ValueError" = some (.type "ValueError") := by decide +kernel
def spChkX (C : Addr) : Sp := fun vs H _ E => ∃ (l : Addr) (row : List Mv) (i : Nat), vs = [.ref l] ∧ RowAt H l row ∧ row.length ≤ 200 ∧ fst row = some i ∧ ∀ (H' : Hp) (dx : Addr), Same H H' → H' dx = some (.xd [("place", .int i)]) → E (.ref C) (some dx) H'
def spMvX (C : Addr) : Sp := fun vs H _ E => ∃ (v : V) (l : Addr) (row : List Mv) (i : Nat), vs = [v, .ref l] ∧ RowAt H l row ∧ row.length ≤ 200 ∧ fst row = some i ∧ ∀ (H' : Hp) (dx : Addr), Same H H' → H' dx = some (.xd [("place", .int i)]) → E (.ref C) (some dx) H'
def spImgX (C : Addr) : Sp := fun vs H _ E => ∃ (l : Addr) (row : List Mv) (c i : Nat), vs = [.ref l, .int c] ∧ c ≤ 6 ∧ RowAt H l row ∧ row.length ≤ 200 ∧ fst row = some i ∧ ∀ (H' : Hp) (dx : Addr), Same H H' → H' dx = some (.xd [("place", .int i)]) → E (.ref C) (some dx) H'
def spUnlX (K : PySem.W.Frag) (C : Addr) : Sp := fun vs H _ E => ∃ (l : Addr) (row : List Mv) (c i : Nat), c ≤ 6 ∧ RowAt H l row ∧ row.length ≤ 200 ∧ fst row = some i ∧ (∀ (H' : Hp) (dx : Addr), Same H H' → H' dx = some (.xd [("place", .int i)]) → E (.ref C) (some dx) H') ∧
  ((∃ v, vs = [.ref l, v, .int c]) ∨ ∃ (lg : Addr) (good : List Mv), vs = [.ref lg, .ref l, .int c] ∧ RowAt H lg good ∧ (∀ x ∈ good, VOk c x) ∧ (∀ x ∈ good, Br x) ∧ good.length ≤ 200)
def spRef7 : Sp := fun vs H Q _ => ∃ (l lg : Addr) (row good : List Mv) (c i : Nat) (wy : Int), vs = [.int wy, .ref l, .ref lg, .int c] ∧ c ≤ 6 ∧ RowAt H l row ∧ row.length ≤ 100 ∧ fst row = some i ∧ RowAt H lg good ∧ (∀ x ∈ good, VOk c x) ∧ (∀ x ∈ good, Br x) ∧ good.length ≤ 200 ∧ ∀ H' : Hp, Same H H' → Q (.int i) H'
section
variable {P : Program} {w : World} {K : PySem.W.Frag} {mg : Str → Option Value} {base : Heap} {k : Nat} {h : Heap} {C D fi : Addr} {bm bm' : List Value} {qual : Str}
theorem sc_init : FnScope ["self", "place"] ["self", "place"] (defScope (inClass (top 5) 0)) := ⟨rfl, rfl, rfl, by decide +kernel, rfl, by decide +kernel, by decide +kernel⟩
theorem ok_init (x : InitAt K C fi qual (inClass (top 5) 0) bm) (na : NoAttr K C "place") : InitCal P w K mg base (k + 1) C bm "place" := by
  refine x.cal na sc_init (fun _ _ _ _ _ _ _ _ => rfl) fun f' cdv A outer s H vs Q E h => ?_
  obtain ⟨a, y, rfl, ha, q⟩ := h
  refine ⟨_, @pss_one _ _ _ (ps_fld1 (C := C) x.sa x.po x.g.dc na (pv 0) (pv 1) rfl), ?_⟩
  exact ⟨_, rfl, _, rfl, a, rfl, ha, fun dx h1 h2 => q dx h1 h2⟩
theorem okx_chk (F : FunAt K "check_borne" (top 38) .none) (X : K.In h) (G : h.Ns mainGlobals mg) (x : Exs K mg C D bm bm') (c_init : InitCal P w K mg base k C bm "place") (c_borne : Cal P w K mg base (k + 1) "borne" ["row"] spBorne) : CalX P w K mg base (k + 2) "check_borne" ["row"] (spChkX C) := by
  have nd := sc_chk.nd
  refine F.calX X G sc_chk (bnd1 fun _ _ _ _ _ _ _ => rfl) (fun vs H Q E h => ?_) (fun f cdv A outer s H vs Q E hr h => ?_)
  · obtain ⟨l, row, i, rfl, _⟩ := h; rfl
  obtain ⟨l, row, i, rfl, R, l200, fi, kq⟩ := h
  refine ⟨_, (@pss_cons _ _ _ _ _ (@ps_set _ _ 1 _ _ _ _ nd rfl (Or.inl rfl) (pe_cal c_borne hr rfl (pa_cons (pv 0) pa_nil)) rfl (.inl rfl))
    (@pss_one _ _ _ (ps_if (pt_cmpR op_notN (pv 1) pe_non (nomark _))
      (@pss_one _ _ _ (ps_raiseI c_init hr flies_of rfl rfl x.mC (pa_cons (pv 1) pa_nil)))
      pss_nil))), ?_⟩
  try dsimp only [cxK]
  refine ⟨_, rfl, l, row, rfl, R, l200, fun H1 S1 => ?_⟩
  rw [fi]
  refine ⟨_, rfl, rfl, _, rfl, nblI (fun _ => ⟨_, rfl, _, rfl, fun dx hd => kq _ dx (S1.trans (same_new hd _)) upd_same⟩) (fun z => ?_)⟩
  exact absurd (of_decide_eq_true z) (by intro z; cases z)
theorem okx_mrows (F : FunAt K "moved_rows" (top 37) .none) (X : K.In h) (G : h.Ns mainGlobals mg) (c_check_borne : CalX P w K mg base k "check_borne" ["row"] (spChkX C)) : CalX P w K mg base (k + 1) "moved_rows" ["rows", "row"] (spMvX C) := by
  have nd := sc_mrows.nd
  refine F.calX X G sc_mrows (bnd2 fun _ _ _ _ _ _ _ _ => rfl) (fun vs H Q E h => ?_) (fun f cdv A outer s H vs Q E hr h => ?_)
  · obtain ⟨v, l, row, i, rfl, _⟩ := h; rfl
  obtain ⟨v, l, row, i, rfl, R, l200, fi, kq⟩ := h
  refine ⟨_, (@pss_cons _ _ _ _ _ (ps_expr (pe_calX c_check_borne (flies_of.passes fun _ _ _ z => z) hr rfl (pa_cons (pv 1) pa_nil))) pss_never), ?_⟩
  try dsimp only [cxK]
  exact ⟨_, rfl, l, row, i, rfl, R, l200, fi, kq⟩
theorem okx_img (F : FunAt K "images" (top 46) .none) (X : K.In h) (G : h.Ns mainGlobals mg) (c_moved_rows : CalX P w K mg base k "moved_rows" ["rows", "row"] (spMvX C)) (c_plain_marks : Cal P w K mg base k "plain_marks" ["cells"] (spPlain K)) : CalX P w K mg base (k + 1) "images" ["row", "cells"] (spImgX C) := by
  have nd := sc_img.nd
  refine F.calX X G sc_img (bnd2 fun _ _ _ _ _ _ _ _ => rfl) (fun vs H Q E h => ?_) (fun f cdv A outer s H vs Q E hr h => ?_)
  · obtain ⟨l, row, c, i, rfl, _⟩ := h; rfl
  obtain ⟨l, row, c, i, rfl, c6, R, l200, fi, kq⟩ := h
  refine ⟨_, (@pss_one _ _ _ (ps_ret (pe_calX c_moved_rows (flies_of.passes fun _ _ _ z => z) hr rfl (pa_cons (pe_cal c_plain_marks hr rfl (pa_cons (pv 1) pa_nil)) (pa_cons (pv 0) pa_nil))))), ?_⟩
  try dsimp only [cxK]
  exact ⟨_, rfl, c, rfl, c6, fun lp H1 pp np S1 M1 => ⟨_, rfl, .ref lp, l, row, i, rfl, R.same S1, l200, fi, fun H' dx S hd => kq H' dx (S1.trans S) hd⟩⟩
theorem okx_unl (F : FunAt K "unlike" (top 48) .none) (X : K.In h) (G : h.Ns mainGlobals mg) (x_images : CalX P w K mg base k "images" ["row", "cells"] (spImgX C)) (c_images : Cal P w K mg base k "images" ["row", "cells"] (spImg K)) : CalX P w K mg base (k + 1) "unlike" ["row", "other", "cells"] (spUnlX K C) := by
  have nd := sc_unl.nd
  refine F.calX X G sc_unl (bnd3 fun _ _ _ _ _ _ _ _ _ => rfl) (fun vs H Q E h => ?_) (fun f cdv A outer s H vs Q E hr h => ?_)
  · obtain ⟨l, row, c, i, _, _, _, _, _, ⟨v, rfl⟩ | ⟨lg, good, rfl, _⟩⟩ := h <;> rfl
  obtain ⟨l, row, c, i, c6, R, l200, fi, kq, ⟨v, rfl⟩ | ⟨lg, good, rfl, RG, ok, br, lg2⟩⟩ := h
  · refine ⟨_, (@pss_cons _ _ _ _ _ (@ps_set _ _ 3 _ _ _ _ nd rfl (Or.inl rfl) (pe_calX x_images (flies_of.passes fun _ _ _ z => z) hr rfl (pa_cons (pv 0) (pa_cons (pv 2) pa_nil))) rfl (.inl rfl)) pss_never), ?_⟩
    exact ⟨_, rfl, _, rfl, l, row, c, i, rfl, c6, R, l200, fi, kq⟩
  · refine ⟨_, (@pss_cons _ _ _ _ _ (@ps_set _ _ 3 _ _ _ _ nd rfl (Or.inl rfl) (pe_cal c_images hr rfl (pa_cons (pv 0) (pa_cons (pv 2) pa_nil))) rfl (.inl rfl)) (@pss_cons _ _ _ _ _ (@ps_set _ _ 4 _ _ _ _ nd rfl (Or.inl rfl) (pe_calX x_images (flies_of.passes fun _ _ _ z => z) hr rfl (pa_cons (pv 1) (pa_cons (pv 2) pa_nil))) rfl (.inl rfl)) pss_never)), ?_⟩
    exact ⟨_, rfl, _, rfl, lg, good, c, rfl, RG, c6, ok, br, lg2, fun la H1 pa na S1 M1 => ⟨_, rfl, _, rfl, l, row, c, i, rfl, c6, R.same S1, l200, fi, fun H' dx S hd => kq H' dx (S1.trans S) hd⟩⟩
theorem sl_listT {X : Cx} {pins : List (Addr × Obj)} {σ : L2.St} {E : XK} : SlR (Xt X pins σ E) (rSlL X.K) := sl_list
theorem call_list_ofT {X : Cx} {pins : List (Addr × Obj)} {σ : L2.St} {E : XK} : CallR (Xt X pins σ E) (.type "list") (fun xs H Q => ∃ p ys, xs = [.ref p] ∧ (SqL X.K H p ys ∨ SqT X.K H p ys) ∧ ∀ l, H l = none → Q (.ref l) (upd H l (.lst ys))) := call_list_of
theorem sc_ref : FnScope ["_law_which", "_law_row", "_law_good", "_law_cells", "_law_told", "e", "_law_others"] ["_law_which", "_law_row", "_law_good", "_law_cells"] (defScope (top 62)) := ⟨rfl, rfl, rfl, by decide +kernel, rfl, by decide +kernel, by decide +kernel⟩
theorem ok_ref (F : FunAt K "_law_refused_at" (top 62) .none) (X : K.In h) (G : h.Ns mainGlobals mg) (B : Bs mg) (x : Exs K mg C D bm bm') (hC : ClsAt K C bm) (gC : PySem.W.ExcG K C) (na : NoAttr K C "place") (c_images : CalX P w K mg base k "images" ["row", "cells"] (spImgX C)) (c_unlike : CalX P w K mg base k "unlike" ["row", "other", "cells"] (spUnlX K C)) :
    Cal P w K mg base (k + 1) "_law_refused_at" ["_law_which", "_law_row", "_law_good", "_law_cells"] spRef7 := by
  have nd := sc_ref.nd
  refine F.cal X G sc_ref (bnd4 fun _ _ _ _ _ _ _ _ _ _ => rfl) (fun vs H Q E h => ?_) (fun f cdv A outer s H vs Q E hr h => ?_)
  · obtain ⟨l, lg, row, good, c, i, wy, rfl, _⟩ := h; rfl
  obtain ⟨l, lg, row, good, c, i, wy, rfl, c6, R, l100, fi, RG, ok, br, lg2, kq⟩ := h
  refine ⟨_, (@pss_cons _ _ _ _ _ (@ps_set _ _ 4 _ _ _ _ nd rfl (Or.inl rfl) pe_non rfl (.inl rfl))
    (@pss_cons _ _ _ _ _ (ps_tryN (E := fun cls di H' => cls = .ref C ∧ Same H H' ∧ ∃ dx, di = some dx ∧ H' dx = some (.xd [("place", .int i)])) (i := 5) ⟨rfl, rfl⟩ nd rfl rfl rfl x.mD hC x.xD x.sub (fun _ _ _ z => z.1)
      (fun pins σ => @pss_one _ _ _ (ps_if (pt_cmpR op_eq (pv 0) pe_int (nomark _))
        (@pss_one _ _ _ (ps_expr (pe_calT (σ0 := σ) c_images hr rfl (pa_cons (pv 1) (pa_cons (pv 3) pa_nil)))))
        (@pss_one _ _ _ (ps_if (pt_cmpR op_eq (pv 0) pe_int (nomark _))
          (@pss_one _ _ _ (ps_expr (pe_calT (σ0 := σ) c_unlike hr rfl (pa_cons (pv 1) (pa_cons (pv 2) (pa_cons (pv 3) pa_nil))))))
          (@pss_one _ _ _ (ps_if (pt_cmpR op_eq (pv 0) pe_int (nomark _))
            (@pss_one _ _ _ (ps_expr (pe_calT (σ0 := σ) c_unlike hr rfl (pa_cons (pv 2) (pa_cons (pv 1) (pa_cons (pv 3) pa_nil))))))
            (@pss_one _ _ _ (ps_if (pt_cmpR op_eq (pv 0) pe_int (nomark _))
              (@pss_one _ _ _ (ps_expr (pe_calT (σ0 := σ) c_unlike hr rfl (pa_cons (pv 1) (pa_cons (pe_callTy call_list_ofT rfl B.list boot_list (pa_cons (pv 1) pa_nil)) (pa_cons (pv 3) pa_nil))))))
              (@pss_one _ _ _ (ps_expr (pe_calT (σ0 := σ) c_unlike hr rfl (pa_cons (pv 1) (pa_cons (pe_op op_cat (pe_op op_cat (pe_slice sl_listT (pv 1) (po_some pe_int) po_none) (pe_slice sl_listT (pv 1) po_none (po_some pe_int))) (pv 1)) (pa_cons (pv 3) pa_nil))))))))))))))
      (fun a => @pss_cons _ _ _ _ _ (@ps_set _ _ 6 _ _ _ _ nd rfl (Or.inl rfl) (pe_or (pe_callB call_isinstEH rfl B.isinstance boot_isinstance (pa_cons (pv 5) (pa_cons (pe_own rfl x.mo_NoCell) pa_nil))) (pe_or (pe_callB call_isinstEH rfl B.isinstance boot_isinstance (pa_cons (pv 5) (pa_cons (pe_own rfl x.mo_NoMove) pa_nil))) (pe_one (pe_callB call_isinstEH rfl B.isinstance boot_isinstance (pa_cons (pv 5) (pa_cons (pe_own rfl x.mo_NoTable) pa_nil)))))) rfl (.inl rfl))
        (@pss_one _ _ _ (ps_if (PW.pt (pw_and (pt_val (pe_callB call_isinstEH rfl B.isinstance boot_isinstance (pa_cons (pv 5) (pa_cons (pe_own rfl x.mC) pa_nil)))) (pw_and (pt_val (pe_callB call_isinstEH rfl B.isinstance boot_isinstance (pa_cons (pv 5) (pa_cons (pe_bltn (v := .ty "ValueError") rfl x.mV boot_VE rfl) pa_nil)))) (pw_and1 (pt_not (pt_val (pv 6)))))))
          (@pss_one _ _ _ (@ps_set _ _ 4 _ _ _ _ nd rfl (Or.inl rfl) (pe_fldEH (pv 5) rfl) rfl (.inl rfl)))
          pss_nil))))
    (@pss_one _ _ _ (ps_ret (pv 4))))), ?_⟩
  try dsimp only [cxK]
  have ends : ∀ H0 : Hp, Same H H0 → ∀ (H' : Hp) (dx : Addr), Same H0 H' → H' dx = some (.xd [("place", .int i)]) → Value.ref C = .ref C ∧ Same H H' ∧ ∃ d, some dx = some d ∧ H' d = some (.xd [("place", .int i)]) := fun H0 S0 H' dx S hd => ⟨rfl, S0.trans S, dx, rfl, hd⟩
  obtain ⟨pr, hl, mr⟩ := id R
  have SL : SqL K H l (pr.map V.ref) := SqL.of hl
  have pl : pr.length = row.length := by have := rows_len mr; rw [List.length_map] at this; exact this
  refine ⟨?_, ?_⟩
  · refine ⟨_, rfl, rfl, _, rfl, eqI (fun _ => ?_) (fun _ => ⟨_, rfl, rfl, _, rfl, eqI (fun _ => ?_) (fun _ => ⟨_, rfl, rfl, _, rfl, eqI (fun _ => ?_) (fun _ => ⟨_, rfl, rfl, _, rfl, eqI (fun _ => ?_) (fun _ => ?_)⟩)⟩)⟩)⟩
    · exact ⟨_, rfl, _, rfl, rfl, l, row, c, i, rfl, c6, R, by omega, fi, ends H (Same.refl _)⟩
    · exact ⟨_, rfl, _, rfl, _, rfl, rfl, l, row, c, i, c6, R, by omega, fi, ends H (Same.refl _), .inl ⟨_, rfl⟩⟩
    · exact ⟨_, rfl, _, rfl, _, rfl, rfl, l, row, c, i, c6, R, by omega, fi, ends H (Same.refl _), .inr ⟨lg, good, rfl, RG, ok, br, lg2⟩⟩
    · exact ⟨_, rfl, _, rfl, l, _, rfl, .inl SL, fun l2 h2 => ⟨_, rfl, rfl, l, row, c, i, c6, R.same (same_new h2 _), by omega, fi, ends _ (same_new h2 _), .inl ⟨_, rfl⟩⟩⟩
    · refine ⟨_, rfl, _, rfl, _, rfl, l, _, rfl, SL, fun l1 h1 => ?_⟩
      have z1 : (cutV (pr.map V.ref) (some 1) none).length ≤ 100 := by
        unfold cutV
        rw [List.length_take, List.length_drop, List.length_map]
        omega
      have z2 : (cutV (pr.map V.ref) none (some 1)).length ≤ 100 := by
        unfold cutV
        rw [List.length_take, List.length_drop, List.length_map]
        omega
      generalize cutV (pr.map V.ref) (some 1) none = xs at z1 h1 ⊢
      have s1 := same_new h1 (.lst xs)
      have q1 : upd H l1 (.lst xs) l1 = some (.lst xs) := upd_same
      generalize upd H l1 (.lst xs) = H1 at s1 q1 ⊢
      refine ⟨_, rfl, _, rfl, l, _, rfl, s1.seq SL, fun l2 h2 => ?_⟩
      refine ⟨l1, l2, _, _, rfl, rfl, same_new h2 _ _ _ q1, upd_same, ?_, fun l3 h3 => ?_⟩
      · exact Nat.le_trans (show _ ≤ 200 by omega) (by decide)
      generalize cutV (pr.map V.ref) none (some 1) = ys at z2 h3 ⊢
      have S2 := s1.trans (same_new h2 (.lst ys))
      generalize upd H1 l2 (.lst ys) = H2 at S2 h3 ⊢
      have s3 := same_new h3 (.lst (xs ++ ys))
      have q3 : upd H2 l3 (.lst (xs ++ ys)) l3 = some (.lst (xs ++ ys)) := upd_same
      generalize upd H2 l3 (.lst (xs ++ ys)) = H3 at s3 q3 ⊢
      have S3 := S2.trans s3
      refine ⟨_, rfl, l3, l, _, _, rfl, rfl, q3, S3 _ _ hl, ?_, fun l4 h4 => ?_⟩
      · rw [List.length_append, List.length_map]
        exact Nat.le_trans (show _ ≤ 300 by omega) (by decide)
      have s4 := same_new h4 (.lst ((xs ++ ys) ++ pr.map V.ref))
      exact ⟨_, rfl, rfl, l, row, c, i, c6, R.same (S3.trans s4), by omega, fi, ends _ (S3.trans s4), .inl ⟨_, rfl⟩⟩
  · rintro a cls di H1 ⟨rfl, S1, dx, rfl, hd⟩ ha
    have ea : upd H1 a (ExcO (some dx) a (.ref C)) a = some (ExcO (some dx) a (.ref C)) := upd_same
    have S2 := S1.trans (same_new ha (ExcO (some dx) a (.ref C)))
    have ed : upd H1 a (ExcO (some dx) a (.ref C)) dx = some (.xd [("place", .int i)]) := same_new ha _ _ _ hd
    generalize upd H1 a (ExcO (some dx) a (.ref C)) = H2 at ea S2 ed ⊢
    have dxx : Dx H2 (some dx) := fun d e => by cases e; exact ⟨_, ed⟩
    refine ⟨_, rfl, a, some dx, C, _, _, false, rfl, ea, dxx, gC, rfl, x.kn_NoCell, _, rfl, iteF ⟨_, rfl, a, some dx, C, _, _, false, rfl, ea, dxx, gC, rfl, x.kn_NoMove, _, rfl, iteF ⟨_, rfl, a, some dx, C, _, _, false, rfl, ea, dxx, gC, rfl, x.kn_NoTable, ?_⟩⟩⟩
    refine ⟨_, rfl, a, some dx, C, _, _, true, rfl, ea, dxx, gC, rfl, x.own, _, rfl, iteT ⟨_, rfl, a, some dx, C, _, _, true, rfl, ea, dxx, gC, rfl, x.ve, _, rfl, iteT ⟨_, rfl, _, rfl, iteT ?_⟩⟩⟩
    exact ⟨_, rfl, a, dx, C, _, _, rfl, ea, ed, gC, na, rfl, _, rfl, kq _ S2⟩
end
end K55S

set_option maxHeartbeats 4000000
namespace K55S
open PySem PySem.Spec PyProof.Rows L2 Ba Am Pc M71
open K73 (top Bs)
open M72 (VOk)
open M75 (Mk mvd mvds Br)
open M77 (bk)
theorem at_strs {l : List Str} {i : Int} (h0 : 0 ≤ i) (h : i < l.length) : atI (l.map V.str) i = some (.str (l.getD i.toNat "")) := by
  have e : i = ((i.toNat : Nat) : Int) := by omega
  have hl : i.toNat < l.length := by omega
  rw [e]
  refine L2.atI_nat ?_
  rw [Int.toNat_natCast, List.getElem?_map, List.getElem?_eq_getElem hl, List.getD_eq_getElem?_getD, List.getElem?_eq_getElem hl]
  rfl
theorem v1' {c : Nat} {a : Int} (h0 : 0 ≤ a) (h1 : a < (c : Int)) : VOk c (.flip a) ∧ VOk c (.mix a) := ⟨⟨h0, fun x hx => by simp [Mv.cells] at hx; omega⟩, ⟨h0, fun x hx => by simp [Mv.cells] at hx; omega⟩⟩
theorem vT {c : Nat} {a k : Int} (h0 : 0 ≤ a) (h1 : a < (c : Int)) (k1 : 1 ≤ k) (k7 : k ≤ 7) : VOk c (.turn a k) := ⟨⟨h0, k1, k7⟩, fun x hx => by simp [Mv.cells] at hx; omega⟩
theorem v2' {c : Nat} {a b : Int} (h0 : 0 ≤ a) (h1 : a < (c : Int)) (g0 : 0 ≤ b) (g1 : b < (c : Int)) (n : a ≠ b) : VOk c (.iff a b) ∧ VOk c (.pair a b) ∧ VOk c (.swap a b) :=
  ⟨⟨⟨h0, g0, n⟩, fun x hx => by simp [Mv.cells] at hx; omega⟩, ⟨⟨h0, g0, n⟩, fun x hx => by simp [Mv.cells] at hx; omega⟩, ⟨⟨h0, g0, n⟩, fun x hx => by simp [Mv.cells] at hx; omega⟩⟩
theorem v3 {c : Nat} {a b d : Int} (h0 : 0 ≤ a) (h1 : a < (c : Int)) (g0 : 0 ≤ b) (g1 : b < (c : Int)) (i0 : 0 ≤ d) (i1 : d < (c : Int)) (n1 : a ≠ b) (n2 : a ≠ d) (n3 : b ≠ d) : VOk c (.cross a b d) := ⟨⟨h0, g0, i0, n1, n2, n3⟩, fun x hx => by simp [Mv.cells] at hx; omega⟩
theorem six {c : Int} (c1 : 1 ≤ c) (c6 : c ≤ 6) : c = 1 ∨ c = 2 ∨ c = 3 ∨ c = 4 ∨ c = 5 ∨ c = 6 := by omega
def spMoveOf : Sp := fun vs H Q _ => ∃ (n : Int) (c : Nat), vs = [.int n, .int c] ∧ 0 ≤ n ∧ 1 ≤ c ∧ c ≤ 6 ∧ ∀ (t : Addr) (H' : Hp) (m : Mv), Same H H' → H' t = some (mT (mm m)) → VOk c m → Br m → Q (.ref t) H'
def spMove : Sp := fun vs H Q _ => ∃ (n : Int) (c : Nat), vs = [.int n, .int c] ∧ 1 ≤ c ∧ c ≤ 6 ∧ ∀ (t : Addr) (H' : Hp) (m : Mv), Same H H' → H' t = some (mT (mm m)) → VOk c m → Br m → Q (.ref t) H'
/-- the cells of a drawn move -/
theorem two_mk {c n : Int} (n0 : 0 ≤ n) (c1 : 1 ≤ c) (c6 : c ≤ 6) : (0 ≤ n / 6 % c ∧ n / 6 % c < c) ∧ (1 < c → 0 ≤ (n / 6 % c + 1 + n / 36 % (if c - 1 > 1 then c - 1 else 1)) % c ∧ (n / 6 % c + 1 + n / 36 % (if c - 1 > 1 then c - 1 else 1)) % c < c ∧ n / 6 % c ≠ (n / 6 % c + 1 + n / 36 % (if c - 1 > 1 then c - 1 else 1)) % c) := by
  rcases six c1 c6 with rfl | rfl | rfl | rfl | rfl | rfl <;> simp <;> omega
def spBack : Sp := fun vs H Q _ => ∃ (p : Addr) (x : Mv), vs = [.ref p] ∧ H p = some (mT (mm x)) ∧ ∀ (t : Addr) (H' : Hp), Same H H' → H' t = some (mT (mm (bk x))) → Q (.ref t) H'
section
variable {P : Program} {w : World} {K : PySem.W.Frag} {mg : Str → Option Value} {base : Heap} {k : Nat} {h : Heap}
theorem sc_move : FnScope ["_law_cell", "_law_cells", "_law_number_here", "_law_one", "_law_other"] ["_law_cell", "_law_cells"] (defScope (top 58)) := ⟨rfl, rfl, rfl, by decide +kernel, rfl, by decide +kernel, by decide +kernel⟩
theorem ok_move (F : FunAt K "_law_move" (top 58) .none) (X : K.In h) (G : h.Ns mainGlobals mg) (B : Bs mg) : Cal P w K mg base (k + 1) "_law_move" ["_law_cell", "_law_cells"] spMove := by
  have nd := sc_move.nd
  refine F.cal X G sc_move (bnd2 fun _ _ _ _ _ _ _ _ => rfl) (fun vs H Q E h => ?_) (fun f cdv A outer s H vs Q E hr h => ?_)
  · obtain ⟨n, c, rfl, _⟩ := h; rfl
  obtain ⟨n0', c, rfl, c1, c6, kq⟩ := h
  have cp : (0 : Int) < (c : Int) := by omega
  have mp : (0 : Int) < if (c : Int) - 1 > 1 then (c : Int) - 1 else 1 := by split <;> omega
  refine ⟨_, (@pss_cons _ _ _ _ _ (@ps_set _ _ 2 _ _ _ _ nd rfl (Or.inl rfl) (pe_op op_mod (pe_op op_add (pe_op op_mul (pv 0) pe_int) pe_int) pe_int) rfl (.inl rfl))
    (@pss_cons _ _ _ _ _ (@ps_set _ _ 3 _ _ _ _ nd rfl (Or.inl rfl) (pe_op op_mod (pe_op op_fdiv (pv 2) pe_int) (pv 1)) rfl (.inl rfl))
    (@pss_cut _ _ _ _ _ (@ps_set _ _ 4 _ _ _ _ nd rfl (Or.inl rfl) (pe_op op_mod (pe_op op_add (pe_op op_add (pv 3) pe_int) (pe_op op_mod (pe_op op_fdiv (pv 2) pe_int) (pe_callB (call_max2 rfl) rfl B.max boot_max (pa_cons pe_int (pa_cons (pe_op op_sub (pv 1) pe_int) pa_nil))))) (pv 1)) rfl (.inl rfl))
    (@pss_cut _ _ _ _ _ (ps_if (PW.pt (pw_and (pt_cmpR op_gt (pv 1) pe_int (nomark _)) (pw_and1 (pt_cmpR op_gt (pe_op op_mod (pv 2) pe_int) pe_int (nomark _)))))
      (@pss_one _ _ _ (ps_ret (@pe_tup _ _ _ _ _ (pa_cons (pe_ix ix_list (@pe_lst _ _ _ _ (pa_cons pe_str (pa_cons pe_str (pa_cons pe_str pa_nil)))) (pe_op op_sub (pe_op op_mod (pv 2) pe_int) pe_int) (fun _ _ => rfl)) (pa_cons (pv 3) (pa_cons (pv 4) pa_nil))))))
      pss_nil)
    (@pss_cons _ _ _ _ _ (ps_if (pt_cmpR op_eq (pe_op op_mod (pv 2) pe_int) pe_int (nomark _))
      (@pss_one _ _ _ (ps_ret (@pe_tup _ _ _ _ _ (pa_cons pe_str (pa_cons (pv 3) (pa_cons (pe_op op_add pe_int (pe_op op_mul pe_int (pe_op op_mod (pe_op op_fdiv (pv 2) pe_int) pe_int))) pa_nil))))))
      pss_nil)
    (@pss_one _ _ _ (ps_ret (@pe_tup _ _ _ _ _ (pa_cons (pe_ix ix_list (@pe_lst _ _ _ _ (pa_cons pe_str (pa_cons pe_str pa_nil))) (pe_op op_mod (pv 2) pe_int) (fun _ _ => rfl)) (pa_cons (pv 3) pa_nil)))))))))), ?_⟩
  try dsimp only [cxK]
  have n0 : 0 ≤ (n0' * 48271 + 69621) % 2147483647 := Int.emod_nonneg _ (by decide)
  refine ⟨_, rfl, _, _, rfl, rfl, .inr ⟨by decide, by decide⟩, _, _, rfl, rfl, _, _, rfl, rfl, (by decide : (0 : Int) < 2147483647), ?_⟩
  show gName 2 (V.int ((n0' * 48271 + 69621) % 2147483647)) _ _ _
  generalize (n0' * 48271 + 69621) % 2147483647 = n at n0 ⊢
  refine ⟨_, rfl, _, _, rfl, rfl, ⟨by decide, by decide⟩, _, rfl, _, _, rfl, rfl, cp, ?_⟩
  refine ⟨fun σ' H' => H = H' ∧ ∃ on ot : Int, (0 ≤ on ∧ on < (c : Int)) ∧ (1 < (c : Int) → 0 ≤ ot ∧ ot < (c : Int) ∧ on ≠ ot) ∧ σ' = [some (.int n0'), some (.int c), some (.int n), some (.int on), some (.int ot)], ?_, ?_⟩
  · have t := two_mk n0 (show (1 : Int) ≤ (c : Int) by omega) (show (c : Int) ≤ 6 by omega)
    exact ⟨_, rfl, _, _, rfl, rfl, _, rfl, _, _, rfl, rfl, ⟨by decide, by decide⟩, _, rfl, _, _, rfl, rfl, 1, (c : Int) - 1, rfl, _, _, rfl, rfl, mp, _, _, rfl, rfl, _, rfl, _, _, rfl, rfl, cp, rfl, _, _, t.1, t.2, rfl⟩
  rintro σ' _ ⟨rfl, on, ot, ⟨o0, o1⟩, o2, rfl⟩
  refine ⟨fun σ' H' => H = H' ∧ σ' = [some (.int n0'), some (.int c), some (.int n), some (.int on), some (.int ot)] ∧ ¬ (1 < (c : Int) ∧ 2 < n % 6), ?_, ?_⟩
  · refine ⟨_, rfl, _, _, rfl, rfl, _, rfl, decI (fun z => ?_) (fun z => iteF ⟨rfl, rfl, fun y => z y.1⟩)⟩
    refine ⟨_, rfl, _, _, rfl, rfl, (by decide : (0 : Int) < 6), _, _, rfl, rfl, _, rfl, decI (fun y => ?_) (fun y => ⟨rfl, rfl, fun u => y u.2⟩)⟩
    obtain ⟨q0, q1, q2⟩ := o2 z
    refine ⟨t3, fun l hl => ?_⟩
    have s1 := same_new hl (.lst [V.str "if", V.str "pair", V.str "swap"])
    have vv := v2' (c := c) o0 o1 q0 q1 q2
    have i3 : n % 6 - 3 = 0 ∨ n % 6 - 3 = 1 ∨ n % 6 - 3 = 2 := by omega
    rcases i3 with e | e | e
    · refine ⟨_, rfl, _, _, rfl, rfl, (by decide : (0 : Int) < 6), _, _, rfl, rfl, l, _, _, .str "if", rfl, rfl, SqL.of upd_same, (by rw [e]; exact k0), _, rfl, _, rfl, t3, fun t ht => ?_⟩
      exact kq t _ (.iff on ot) (s1.trans (same_new ht _)) upd_same vv.1 trivial
    · refine ⟨_, rfl, _, _, rfl, rfl, (by decide : (0 : Int) < 6), _, _, rfl, rfl, l, _, _, .str "pair", rfl, rfl, SqL.of upd_same, (by rw [e]; exact k1), _, rfl, _, rfl, t3, fun t ht => ?_⟩
      exact kq t _ (.pair on ot) (s1.trans (same_new ht _)) upd_same vv.2.1 trivial
    · refine ⟨_, rfl, _, _, rfl, rfl, (by decide : (0 : Int) < 6), _, _, rfl, rfl, l, _, _, .str "swap", rfl, rfl, SqL.of upd_same, (by rw [e]; exact k2), _, rfl, _, rfl, t3, fun t ht => ?_⟩
      exact kq t _ (.swap on ot) (s1.trans (same_new ht _)) upd_same vv.2.2 trivial
  rintro σ' _ ⟨rfl, rfl, _⟩
  refine ⟨_, rfl, _, _, rfl, rfl, (by decide : (0 : Int) < 3), rfl, _, rfl, eqI (fun z => ?_) (fun z => ?_)⟩
  · refine ⟨_, rfl, _, rfl, _, _, rfl, rfl, ⟨by decide, by decide⟩, _, _, rfl, rfl, (by decide : (0 : Int) < 3), _, _, rfl, rfl, .inl ⟨by decide, by decide⟩, _, _, rfl, rfl, t3, fun t ht => ?_⟩
    exact kq t _ (.turn on (2 + 2 * (n / 216 % 3))) (same_new ht _) upd_same (vT o0 o1 (by omega) (by omega)) (by show (2 + 2 * (n / 216 % 3)).toNat % 2 = 0; omega)
  · refine ⟨t2, fun l hl => ?_⟩
    have s1 := same_new hl (.lst [V.str "flip", V.str "mix"])
    have i2 : n % 3 = 0 ∨ n % 3 = 1 := by omega
    rcases i2 with e | e
    · refine ⟨_, rfl, _, _, rfl, rfl, (by decide : (0 : Int) < 3), l, _, _, .str "flip", rfl, rfl, SqL.of upd_same, (by rw [e]; rfl), _, rfl, t2, fun t ht => ?_⟩
      exact kq t _ (.flip on) (s1.trans (same_new ht _)) upd_same (v1' o0 o1).1 trivial
    · refine ⟨_, rfl, _, _, rfl, rfl, (by decide : (0 : Int) < 3), l, _, _, .str "mix", rfl, rfl, SqL.of upd_same, (by rw [e]; rfl), _, rfl, t2, fun t ht => ?_⟩
      exact kq t _ (.mix on) (s1.trans (same_new ht _)) upd_same (v1' o0 o1).2 trivial
theorem sc_bk : FnScope ["_law_move_here"] ["_law_move_here"] (defScope (top 59)) := ⟨rfl, rfl, rfl, by decide +kernel, rfl, by decide +kernel, by decide +kernel⟩
theorem ok_bk (F : FunAt K "_law_back" (top 59) .none) (X : K.In h) (G : h.Ns mainGlobals mg) : Cal P w K mg base (k + 1) "_law_back" ["_law_move_here"] spBack := by
  have nd := sc_bk.nd
  refine F.cal X G sc_bk (bnd1 fun _ _ _ _ _ _ _ => rfl) (fun vs H Q E h => ?_) (fun f cdv A outer s H vs Q E hr h => ?_)
  · obtain ⟨p, x, rfl, _⟩ := h; rfl
  obtain ⟨p, x, rfl, hp, q⟩ := h
  have SP : SqT K H p (.str (nm x) :: (ns x).map V.int) := SqT.of hp
  refine ⟨_, (@pss_cons _ _ _ _ _ (ps_if (pt_cmpR op_eq (pe_ix ix_tup (pv 0) pe_int (fun _ _ => rfl)) pe_str (nomark _))
      (@pss_one _ _ _ (ps_ret (@pe_tup _ _ _ _ _ (pa_cons pe_str (pa_cons (pe_ix ix_tup (pv 0) pe_int (fun _ _ => rfl)) (pa_cons (pe_op op_sub pe_int (pe_ix ix_tup (pv 0) pe_int (fun _ _ => rfl))) pa_nil))))))
      pss_nil)
    (@pss_one _ _ _ (ps_ret (pv 0)))), ?_⟩
  try dsimp only [cxK]
  refine ⟨_, rfl, p, _, _, .str (nm x), rfl, rfl, SP, at0m x, rfl, ?_⟩
  by_cases e : nm x = "turn"
  · obtain ⟨a, j, rfl⟩ := turn_of e
    exact ⟨_, rfl, decI (fun _ => ⟨_, rfl, p, _, _, .int a, rfl, rfl, SP, k1, _, rfl, p, _, _, .int j, rfl, rfl, SP, k2, _, _, rfl, rfl, t3, fun t ht => q t _ (same_new ht _) upd_same⟩) (fun z => absurd rfl z)⟩
  · refine ⟨_, rfl, decI (fun z => absurd (V.str.inj z) e) (fun _ => ?_)⟩
    refine ⟨_, rfl, q p H (Same.refl _) ?_⟩
    have : bk x = x := by cases x <;> first | rfl | exact absurd rfl e
    rw [this]
    exact hp
theorem sc_foreign : FnScope ["_law_cells", "_law_far"] ["_law_cells", "_law_far"] (defScope (top 60)) := ⟨rfl, rfl, rfl, by decide +kernel, rfl, by decide +kernel, by decide +kernel⟩
theorem ok_foreign (F : FunAt K "_law_foreign" (top 60) .none) (X : K.In h) (G : h.Ns mainGlobals mg) : Cal P w K mg base (k + 1) "_law_foreign" ["_law_cells", "_law_far"] spForeign := by
  have nd := sc_foreign.nd
  refine F.cal X G sc_foreign (bnd2 fun _ _ _ _ _ _ _ _ => rfl) (fun vs H Q E h => ?_) (fun f cdv A outer s H vs Q E hr h => ?_)
  · obtain ⟨n, c, rfl, _⟩ := h; rfl
  obtain ⟨n, c, rfl, n0, c1, c6, kq⟩ := h
  have cp : (0 : Int) < (c : Int) := by omega
  refine ⟨_, (@pss_cut _ _ _ _ _ (ps_if (PW.pt (pw_and (pt_cmpR op_gt (pv 0) pe_int (nomark _)) (pw_and1 (pt_cmpR op_eq (pe_op op_mod (pv 1) pe_int) pe_int (nomark _)))))
      (@pss_one _ _ _ (ps_ret (pe_ix ix_list (@pe_lst _ _ _ _ (pa_cons (@pe_tup _ _ _ _ _ (pa_cons pe_str (pa_cons pe_int (pa_cons pe_int (pa_cons pe_int pa_nil))))) (pa_cons (@pe_tup _ _ _ _ _ (pa_cons pe_str (pa_cons pe_int (pa_cons pe_int (pa_cons pe_int pa_nil))))) (pa_cons (@pe_tup _ _ _ _ _ (pa_cons pe_str (pa_cons pe_int (pa_cons pe_int (pa_cons pe_int pa_nil))))) pa_nil)))) (pe_op op_mod (pe_op op_fdiv (pv 1) pe_int) pe_int) (fun _ _ => rfl))))
      pss_nil)
    (@pss_one _ _ _ (ps_ret (@pe_tup _ _ _ _ _ (pa_cons pe_str (pa_cons (pe_op op_mod (pe_op op_fdiv (pv 1) pe_int) (pv 0)) (pa_cons (pe_op op_add pe_int (pe_op op_mul pe_int (pe_op op_mod (pe_op op_fdiv (pv 1) pe_int) pe_int))) pa_nil))))))), ?_⟩
  try dsimp only [cxK]
  refine ⟨fun σ' H' => H = H' ∧ σ' = [some (.int c), some (.int n)], ?_, ?_⟩
  · refine ⟨_, rfl, _, _, rfl, rfl, _, rfl, decI (fun z => ?_) (fun z => iteF ⟨rfl, rfl⟩)⟩
    refine ⟨_, rfl, _, _, rfl, rfl, (by decide : (0 : Int) < 2), rfl, _, rfl, eqI (fun y => ?_) (fun y => ⟨rfl, rfl⟩)⟩
    have z : (2 : Int) < (c : Int) := z
    refine ⟨(by decide : (4 : Nat) ≤ sizeLine), fun t1 h1 => ?_⟩
    have s1 := same_new h1 (mT (mm (.cross 0 1 2)))
    have q1 : upd H t1 (mT (mm (.cross 0 1 2))) t1 = some (mT (mm (.cross 0 1 2))) := upd_same
    refine ⟨(by decide : (4 : Nat) ≤ sizeLine), fun t2' h2 => ?_⟩
    have s2 := same_new h2 (mT (mm (.cross 1 2 0)))
    refine ⟨(by decide : (4 : Nat) ≤ sizeLine), fun t3' h3 => ?_⟩
    have s3 := same_new h3 (mT (mm (.cross 2 1 0)))
    refine ⟨t3, fun l hl => ?_⟩
    have s4 := same_new hl (.lst [V.ref t1, V.ref t2', V.ref t3'])
    have i3 : n / 2 % 3 = 0 ∨ n / 2 % 3 = 1 ∨ n / 2 % 3 = 2 := by omega
    rcases i3 with e | e | e
    · refine ⟨_, rfl, _, _, rfl, rfl, ⟨by decide, by decide⟩, _, _, rfl, rfl, (by decide : (0 : Int) < 3), l, _, _, .ref t1, rfl, rfl, SqL.of upd_same, (by rw [e]; exact k0), ?_⟩
      exact kq t1 _ (.cross 0 1 2) (((s1.trans s2).trans s3).trans s4) (((s2.trans s3).trans s4) _ _ q1) (v3 (by decide) (by omega) (by decide) (by omega) (by decide) (by omega) (by decide) (by decide) (by decide)) rfl
    · refine ⟨_, rfl, _, _, rfl, rfl, ⟨by decide, by decide⟩, _, _, rfl, rfl, (by decide : (0 : Int) < 3), l, _, _, .ref t2', rfl, rfl, SqL.of upd_same, (by rw [e]; exact k1), ?_⟩
      exact kq t2' _ (.cross 1 2 0) (((s1.trans s2).trans s3).trans s4) ((s3.trans s4) _ _ upd_same) (v3 (by decide) (by omega) (by decide) (by omega) (by decide) (by omega) (by decide) (by decide) (by decide)) rfl
    · refine ⟨_, rfl, _, _, rfl, rfl, ⟨by decide, by decide⟩, _, _, rfl, rfl, (by decide : (0 : Int) < 3), l, _, _, .ref t3', rfl, rfl, SqL.of upd_same, (by rw [e]; exact k2), ?_⟩
      exact kq t3' _ (.cross 2 1 0) (((s1.trans s2).trans s3).trans s4) (s4 _ _ upd_same) (v3 (by decide) (by omega) (by decide) (by omega) (by decide) (by omega) (by decide) (by decide) (by decide)) rfl
  rintro σ' _ ⟨rfl, rfl⟩
  refine ⟨_, rfl, _, _, rfl, rfl, ⟨by decide, by decide⟩, _, rfl, _, _, rfl, rfl, cp, _, rfl, _, _, rfl, rfl, ⟨by decide, by decide⟩, _, _, rfl, rfl, (by decide : (0 : Int) < 4), _, _, rfl, rfl, .inl ⟨by decide, by decide⟩, _, _, rfl, rfl, t3, fun t ht => ?_⟩
  refine kq t _ (.turn (n / 2 % (c : Int)) (1 + 2 * (n / 12 % 4))) (same_new ht _) upd_same (vT (Int.emod_nonneg _ (by omega)) (Int.emod_lt_of_pos _ cp) (by omega) (by omega)) ?_
  show (!decide (V.int ((1 + 2 * (n / 12 % 4)) % 2) = V.int 1)) = false
  rw [decide_eq_true (by congr 1; omega)]
  rfl
end
end K55S

set_option maxHeartbeats 4000000
namespace K55S
open PySem PySem.Spec PyProof.Rows L2 Ba Am Pc M71
open K73 (top Bs Bd5 ValsK At5 Steps spRunK)
open M72 (VOk)
open M75 (Mk mvd mvds Br)
open M77 (pmk pmk_len pmk_get bk)
def spImgAre (K : PySem.W.Frag) : Sp := fun vs H Q _ => ∃ (lf lb lr : Addr) (qs ps : List Addr) (f : Nat → A5) (row : List Mv) (c : Nat), vs = [.ref lf, .ref lb, .ref lr, .int c] ∧ MksAt K H lf qs ((pmk c).map (mvds row)) ∧ Bd5 K H lb ps f c 100 40 ∧ RowAt H lr row ∧ c ≤ 6 ∧ (∀ x ∈ row, VOk c x) ∧ (∀ x ∈ row, Br x) ∧ row.length ≤ 100 ∧ ∀ H', Same H H' → Q (.bl true) H'
section
variable {P : Program} {w : World} {K : PySem.W.Frag} {mg : Str → Option Value} {base : Heap} {k : Nat} {h : Heap}
theorem sc_imgare : FnScope ["_law_found", "_law_board_here", "_law_row", "_law_cells", "_law_behind", "_law_k", "_law_mark"] ["_law_found", "_law_board_here", "_law_row", "_law_cells"] (defScope (top 63)) := ⟨rfl, rfl, rfl, by decide +kernel, rfl, by decide +kernel, by decide +kernel⟩
theorem ok_imgare (F : FunAt K "_law_images_are" (top 63) .none) (X : K.In h) (G : h.Ns mainGlobals mg) (B : Bs mg) (c_run : Cal P w K mg base k "run" ["board", "row"] (spRunK K)) (c__law_is_mark : Cal P w K mg base k "_law_is_mark" ["_law_found", "_law_cells"] (spIsMark K)) (c_laid_on : Cal P w K mg base k "laid_on" ["board", "mark"] (spLayK K)) : Cal P w K mg base (k + 1) "_law_images_are" ["_law_found", "_law_board_here", "_law_row", "_law_cells"] (spImgAre K) := by
  have nd := sc_imgare.nd
  refine F.cal X G sc_imgare (bnd4 fun _ _ _ _ _ _ _ _ _ _ => rfl) (fun vs H Q E h => ?_) (fun f cdv A outer s H vs Q E hr h => ?_)
  · obtain ⟨lf, lb, lr, qs, ps, f, row, c, rfl, _⟩ := h; rfl
  obtain ⟨lf, lb, lr, qs, ps, f, row, c, rfl, MF, B1, R, c6, ok, br, l60, kq⟩ := h
  have SL : SqL K H lf (qs.map V.ref) := SqL.of MF.1
  have ql := pm_len MF.2
  rw [List.length_map, pmk_len] at ql
  refine ⟨_, (@pss_cons _ _ _ _ _ (ps_if (PW.pt (pw_or (pt_not (pt_val (pe_callB call_isinst rfl B.isinstance boot_isinstance (pa_cons (pv 0) (pa_cons (pe_bltn (v := .ty "list") rfl B.list boot_list rfl) pa_nil))))) (pw_or1 (pt_cmpR op_ne (pe_callB call_len_seq rfl B.len PySem.boot_len (pa_cons (pv 0) pa_nil)) (pe_op op_mul pe_int (pv 3)) (nomark _)))))
      (@pss_one _ _ _ (ps_ret pe_bl))
      pss_nil)
    (@pss_cons _ _ _ _ _ (@ps_set _ _ 4 _ _ _ _ nd rfl (Or.inl rfl) (pe_cal c_run hr rfl (pa_cons (pv 1) (pa_cons (pv 2) pa_nil))) rfl (.inl rfl))
    (@pss_cons _ _ _ _ _ (ps_for PassesOwn.never rfl (pi_range1 rfl B.range (pa_cons (pe_op op_mul pe_int (pv 3)) pa_nil)) (pg_name (i := 5) nd rfl (Or.inl rfl))
      (@pss_cons _ _ _ _ _ (@ps_set _ _ 6 _ _ _ _ nd rfl (Or.inl rfl) (@pe_tup _ _ _ _ _ (pa_cons pe_int (pa_cons (pe_op op_shlS pe_int (pe_op op_fdiv (pv 5) pe_int)) (pa_cons pe_int pa_nil)))) rfl (.inl rfl))
      (@pss_cut _ _ _ _ _ (ps_if (pt_cmpR op_eq (pe_op op_mod (pv 5) pe_int) pe_int (nomark _))
        (@pss_one _ _ _ (@ps_set _ _ 6 _ _ _ _ nd rfl (Or.inl rfl) (@pe_tup _ _ _ _ _ (pa_cons pe_int (pa_cons pe_int (pa_cons (pe_op op_shlS pe_int (pe_op op_fdiv (pv 5) pe_int)) pa_nil)))) rfl (.inl rfl)))
        pss_nil)
      (@pss_one _ _ _ (ps_if (PW.pt (pw_or (pt_not (pt_val (pe_cal c__law_is_mark hr rfl (pa_cons (pe_ix ix_list (pv 0) (pv 5) (fun _ _ => rfl)) (pa_cons (pv 3) pa_nil))))) (pw_or1 (pt_cmpR (op_neLTK hr.units) (pe_cal c_run hr rfl (pa_cons (pe_cal c_laid_on hr rfl (pa_cons (pv 1) (pa_cons (pv 6) pa_nil))) (pa_cons (pv 2) pa_nil))) (pe_cal c_laid_on hr rfl (pa_cons (pv 4) (pa_cons (pe_ix ix_list (pv 0) (pv 5) (fun _ _ => rfl)) pa_nil))) (nomark _)))))
        (@pss_one _ _ _ (ps_ret pe_bl))
        pss_nil)))))
    (@pss_one _ _ _ (ps_ret pe_bl))))), ?_⟩
  try dsimp only [cxK]
  refine ⟨_, rfl, _, _, _, true, rfl, TyOf.lst MF.1, kit_ll K, _, rfl, iteF ⟨_, rfl, lf, _, rfl, .inl SL, _, rfl, _, _, rfl, rfl, .inl ⟨by decide, by decide⟩, rfl, _, rfl, neI (fun z => absurd ?_ z) (fun _ => ?_)⟩⟩
  · rw [List.length_map, ql]; omega
  obtain ⟨rp, rw1⟩ := row_rw R ok (by omega)
  refine ⟨_, rfl, _, rfl, lb, lr, ps, rp, f, c, 100, 40, row.map gm, rfl, rw1, B1, c6, by decide, by decide, fun lg H1 gs g n1 S1 B2 T1 => ?_⟩
  refine ⟨_, rfl, _, _, rfl, rfl, .inl ⟨by decide, by decide⟩, _, rfl, by omega, by omega, ?_⟩
  rw [show (2 * (c : Int)).toNat = 2 * c by omega]
  refine for_range (n := 2 * c) (fun j σ H' => ∃ (v1 v2 : Option V), Same H1 H' ∧ σ = [some (.ref lf), some (.ref lb), some (.ref lr), some (.int c), some (.ref lg), v1, v2])
    ⟨none, none, Same.refl _, rfl⟩ ?_ ?_
  · rintro j σ H2 hj ⟨v1, v2, S2, rfl⟩
    have hm := pmk_get hj
    have jq : qs[j]? = some (qs[j]'(by omega)) := List.getElem?_eq_getElem (by omega)
    generalize qs[j]'(by omega) = q at jq
    obtain ⟨m', hm', em⟩ := pm_get MF.2 jq
    rw [List.getElem?_map, hm] at hm'
    have hm' := Option.some.inj hm'
    obtain ⟨m, hmm, em1⟩ : ∃ m : Mk, m ∈ pmk c ∧ (if j % 2 = 1 then (0, 0, 2 ^ (j / 2)) else (0, 2 ^ (j / 2), 0)) = m := ⟨_, List.mem_of_getElem? hm, rfl⟩
    rw [em1] at hm'
    have om := pmk_ok hmm
    have og := mvds_ok ok om
    rw [hm'] at og
    have hd : (0 + (j : Int)) / 2 = ((j / 2 : Nat) : Int) := by omega
    have j6 : j / 2 < 6 := by omega
    refine ⟨_, rfl, _, _, rfl, rfl, ⟨by decide, by decide⟩, _, _, rfl, rfl, ⟨1, sz1, by rw [hd]; omega, by rw [hd]; omega⟩, t3, fun t1 ht1 => ?_⟩
    have S3 := S2.trans (same_new ht1 (.tup [V.int 0, V.int (1 * 2 ^ ((0 + (j : Int)) / 2).toNat), V.int 0]))
    have q1 : upd H2 t1 (.tup [V.int 0, V.int (1 * 2 ^ ((0 + (j : Int)) / 2).toNat), V.int 0]) t1 = some (.tup [V.int 0, V.int (1 * 2 ^ ((0 + (j : Int)) / 2).toNat), V.int 0]) := upd_same
    generalize upd H2 t1 (.tup [V.int 0, V.int (1 * 2 ^ ((0 + (j : Int)) / 2).toNat), V.int 0]) = H3 at S3 q1 ⊢
    refine ⟨fun σ H' => Same H3 H' ∧ ∃ p, H' p = some (.tup (mkL m)) ∧ σ = [some (.ref lf), some (.ref lb), some (.ref lr), some (.int c), some (.ref lg), some (.int (0 + j)), some (.ref p)], ?_, ?_⟩
    · refine ⟨_, rfl, _, _, rfl, rfl, (by decide : (0 : Int) < 2), rfl, _, rfl, eqI (fun z => ?_) (fun z => ⟨Same.refl _, t1, ?_, rfl⟩)⟩
      · refine ⟨_, rfl, _, _, rfl, rfl, ⟨by decide, by decide⟩, _, _, rfl, rfl, ⟨1, sz1, by rw [hd]; omega, by rw [hd]; omega⟩, t3, fun t2' ht2 => ⟨same_new ht2 _, t2', ?_, rfl⟩⟩
        rw [upd_same, ← em1, if_pos (by omega), hd]
        show some (HO.tup [V.int 0, V.int 0, V.int (1 * 2 ^ (((j / 2 : Nat) : Int)).toNat)]) = _
        rw [ipw]
        rfl
      · rw [q1, ← em1, if_neg (by omega), hd, ipw]
        rfl
    rintro σ H4 ⟨S4, p, hp, rfl⟩
    have S04 := (S1.trans S3).trans S4
    have S14 := S3.trans S4
    have aj : atI (qs.map V.ref) (0 + (j : Int)) = some (.ref q) := by rw [Int.zero_add]; exact atI_nat (by rw [List.getElem?_map, jq]; rfl)
    refine ⟨_, rfl, _, rfl, lf, _, _, .ref q, rfl, rfl, S04.seq SL, aj, _, rfl, q, m', c, rfl, S04.tup em, og, c6, _, rfl, iteF ?_⟩
    refine ⟨_, rfl, _, rfl, lb, p, ps, f, c, 100, 40, m, rfl, B1.same S04, c6, SqT.of hp, om, fun r1 H5 q1' n5 S5 L5 => ?_⟩
    obtain ⟨rp5, rw5⟩ := row_rw ((R.same S04).same S5) ok (by omega)
    refine ⟨_, rfl, r1, lr, q1', rp5, _, c, 100, 40, row.map gm, rfl, rw5, L5, c6, by decide, by decide, fun r2 H6 q2 g2 n6 S6 L6 T6 => ?_⟩
    have S46 := S5.trans S6
    refine ⟨_, rfl, _, rfl, _, rfl, lf, _, _, .ref q, rfl, rfl, (S04.trans S46).seq SL, aj, lg, q, gs, g, c, _, _, m', rfl, (B2.same S14).same S46, c6, (S04.trans S46).tup em, og, fun r3 H7 q3 n7 S7 L7 => ?_⟩
    have same := gone (N := 40) c6 om ok br (fun w hw => (B1.ok w hw).amt) (fun w hw => (B1.ok w hw).le) T1 T6
    refine ⟨r2, r3, q2, q3, _, _, rfl, rfl, S7 _ _ L6.lst, L7.lst, rows_b (L6.same S7), rows_b L7, _, rfl, ?_⟩
    rw [hm'] at same
    rw [boards_same same, decide_eq_true rfl]
    exact iteF ⟨_, _, (S14.trans S46).trans S7, rfl⟩
  · rintro σ H2 ⟨v1, v2, S2, rfl⟩
    exact kq H2 (S1.trans S2)
end
end K55S

set_option maxHeartbeats 4000000
namespace K55S
open PySem PySem.Spec PyProof.Rows L2 Ba Am Pc M71
open K73 (top Bs Bd5 ValsK At5 Steps spRunK spBoardN)
open M72 (VOk)
open M75 (Mk mvd mvds Br)
open M77 (pmk pmk_len pmk_get bk)
theorem cut_from {xs : List V} {p : Nat} {i : Int} (hi : i = p) : cutV xs (some i) none = xs.drop p := by
  subst hi
  unfold cutV
  rw [HT.sIx_nat]
  have e2 : HT.sIx xs.length xs.length none = xs.length := rfl
  rw [e2]
  by_cases h : p ≤ xs.length
  · rw [Nat.min_eq_left h, List.take_of_length_le (by rw [List.length_drop]; exact Nat.le_refl _)]
  · rw [Nat.min_eq_right (by omega), Nat.sub_self, List.take_zero, List.drop_eq_nil_of_le (by omega)]
theorem cut_to {xs : List V} {p : Nat} {e : Int} (he : e = p) : cutV xs none (some e) = xs.take p := by
  subst he
  unfold cutV
  rw [HT.sIx_nat]
  have e2 : HT.sIx xs.length 0 none = 0 := rfl
  rw [e2, List.drop_zero, Nat.sub_zero]
  by_cases h : p ≤ xs.length
  · rw [Nat.min_eq_left h]
  · rw [Nat.min_eq_right (by omega), List.take_of_length_le (Nat.le_refl _), List.take_of_length_le (by omega)]
theorem rows_app {H : Hp} : ∀ {ps qs : List Addr} {xs ys : List Mm}, RowsM H ps xs → RowsM H qs ys → RowsM H (ps ++ qs) (xs ++ ys)
  | [], _, [], _, .nil, h => h
  | _ :: _, _, _ :: _, _, .cons a r, h => .cons a (rows_app r h)
theorem rows_drop {H : Hp} : ∀ {ps : List Addr} {xs : List Mm} (n : Nat), RowsM H ps xs → RowsM H (ps.drop n) (xs.drop n)
  | _, _, 0, h => h
  | [], [], n + 1, .nil => by rw [List.drop_nil, List.drop_nil]; exact .nil
  | _ :: _, _ :: _, n + 1, .cons _ r => rows_drop n r
theorem rows_take {H : Hp} : ∀ {ps : List Addr} {xs : List Mm} (n : Nat), RowsM H ps xs → RowsM H (ps.take n) (xs.take n)
  | _, _, 0, _ => by rw [List.take_zero, List.take_zero]; exact .nil
  | [], [], n + 1, .nil => by rw [List.take_nil, List.take_nil]; exact .nil
  | _ :: _, _ :: _, n + 1, .cons a r => .cons a (rows_take n r)
/-- a move put in -/
def put (row : List Mv) (i : Nat) (x : Mv) : List Mv := row.take i ++ [x] ++ row.drop i
theorem put_len {row : List Mv} {i : Nat} {x : Mv} (h : i ≤ row.length) : (put row i x).length = row.length + 1 := by
  unfold put
  rw [List.length_append, List.length_append, List.length_take, List.length_drop, List.length_singleton]
  omega
/-- the first move that bears no mark stands at i -/
def Fst (row : List Mv) (i : Nat) : Prop := (∀ y ∈ row.take i, brB y = true) ∧ ∃ x, row[i]? = some x ∧ brB x = false
theorem Fst.at {row : List Mv} {i : Nat} (h : Fst row i) : fst row = some i := by
  obtain ⟨h1, x, h2, h3⟩ := h
  exact fst_at h1 h2 h3
theorem Fst.put1 {row : List Mv} {i : Nat} {x : Mv} (hi : i ≤ row.length) (b : ∀ y ∈ row, brB y = true) (hx : brB x = false) : Fst (put row i x) i := by
  have lt : (row.take i).length = i := by rw [List.length_take]; omega
  refine ⟨fun y hy => ?_, x, ?_, hx⟩
  · unfold put at hy
    rw [List.append_assoc, List.take_append_of_le_length (by omega), List.take_of_length_le (by omega)] at hy
    exact b y (List.mem_of_mem_take hy)
  · unfold put
    rw [List.append_assoc, List.getElem?_append_right (by omega), lt, Nat.sub_self]
    rfl
theorem Fst.put2 {row : List Mv} {i j : Nat} {x : Mv} (h : Fst row i) (hij : i < j) (hj : j ≤ row.length) : Fst (put row j x) i := by
  have lt : (row.take j).length = j := by rw [List.length_take]; omega
  obtain ⟨h1, y, h2, h3⟩ := h
  refine ⟨fun z hz => h1 z ?_, y, ?_, h3⟩
  · unfold put at hz
    rw [List.append_assoc, List.take_append_of_le_length (by omega), List.take_take, Nat.min_eq_left (by omega)] at hz
    exact hz
  · unfold put
    rw [List.append_assoc, List.getElem?_append_left (by omega), List.getElem?_take_of_lt hij]
    exact h2
theorem row_put {H : Hp} {l t : Addr} {ps : List Addr} {row : List Mv} {i : Nat} {x : Mv} (hr : RowsM H ps (row.map mm)) (ht : H t = some (mT (mm x))) (hl : H l = some (.lst (((ps.map V.ref).take i ++ [V.ref t]) ++ (ps.map V.ref).drop i))) : RowAt H l (put row i x) := by
  refine ⟨ps.take i ++ [t] ++ ps.drop i, by rw [hl, List.map_append, List.map_append, List.map_take, List.map_drop]; rfl, ?_⟩
  unfold put
  rw [List.map_append, List.map_append, List.map_take, List.map_drop]
  exact rows_app (rows_app (rows_take i hr) (.cons ht .nil)) (rows_drop i hr)
theorem cut_ints' (ns : List Int) (a b : Option Int) : ∃ dr : List Int, cutV (ns.map V.int) a b = dr.map V.int ∧ dr.length ≤ ns.length := by
  unfold cutV
  refine ⟨_, by rw [← List.map_drop, ← List.map_take], ?_⟩
  rw [List.length_take, List.length_drop]
  omega
theorem Fst.snoc {row : List Mv} {i : Nat} {y : Mv} (h : Fst row i) : Fst (row ++ [y]) i := by
  obtain ⟨h1, x, h2, h3⟩ := h
  have il : i < row.length := (List.getElem?_eq_some_iff.mp h2).1
  refine ⟨fun z hz => h1 z ?_, x, ?_, h3⟩
  · rw [List.take_append_of_le_length (by omega)] at hz; exact hz
  · rw [List.getElem?_append_left il]; exact h2
/-- a move and its back move put in -/
def put2 (row : List Mv) (i : Nat) (x : Mv) : List Mv := row.take i ++ [x, bk x] ++ row.drop i
theorem put2_mk {c : Nat} {row : List Mv} {i : Nat} {x : Mv} (ok : ∀ y ∈ row, VOk c y) (ox : VOk c x) (bx : Br x) {m : Mk} (om : OkK c m) : mvds (put2 row i x) m = mvds row m := by
  have o1 : OkK c (mvds (row.take i) m) := mvds_ok (fun y hy => ok y (List.mem_of_mem_take hy)) om
  unfold put2
  rw [M77.mvds_app, M77.mvds_app]
  show mvds (row.drop i) (mvd (bk x) (mvd x (mvds (row.take i) m))) = _
  rw [M77.mvd_bk ox.1 bx o1.k, ← M77.mvds_app, List.take_append_drop]
theorem put2_all {row : List Mv} {i : Nat} {x : Mv} {P : Mv → Prop} (ok : ∀ y ∈ row, P y) (ox : P x) (ob : P (bk x)) : ∀ y ∈ put2 row i x, P y := by
  intro y hy
  unfold put2 at hy
  rcases List.mem_append.mp hy with hy | hy
  · rcases List.mem_append.mp hy with hy | hy
    · exact ok y (List.mem_of_mem_take hy)
    · rcases List.mem_cons.mp hy with rfl | hy
      · exact ox
      · rw [List.mem_singleton.mp hy]; exact ob
  · exact ok y (List.mem_of_mem_drop hy)
theorem put2_len {row : List Mv} {i : Nat} {x : Mv} : (put2 row i x).length ≤ row.length + row.length + 2 := by
  unfold put2
  rw [List.length_append, List.length_append, List.length_take, List.length_drop]
  show min i row.length + 2 + (row.length - i) ≤ _
  omega
theorem row_put2 {H : Hp} {l t u : Addr} {ps : List Addr} {row : List Mv} {i : Nat} {x : Mv} (hr : RowsM H ps (row.map mm)) (ht : H t = some (mT (mm x))) (hu : H u = some (mT (mm (bk x)))) (hl : H l = some (.lst (((ps.map V.ref).take i ++ [V.ref t, V.ref u]) ++ (ps.map V.ref).drop i))) : RowAt H l (put2 row i x) := by
  refine ⟨ps.take i ++ [t, u] ++ ps.drop i, by rw [hl, List.map_append, List.map_append, List.map_take, List.map_drop]; rfl, ?_⟩
  unfold put2
  rw [List.map_append, List.map_append, List.map_take, List.map_drop]
  exact rows_app (rows_app (rows_take i hr) (.cons ht (.cons hu .nil))) (rows_drop i hr)
section
variable {P : Program} {w : World} {K : PySem.W.Frag} {mg : Str → Option Value} {base : Heap} {k : Nat} {h : Heap}
theorem sc_law : FnScope ["_law_script", "_law_cells", "_law_drawn", "_law_row", "_law_kept", "_law_found", "_law_far", "_law_at", "_law_extra", "_law_bad", "_law_told"] ["_law_script"] (defScope (top 64)) := ⟨rfl, rfl, rfl, by decide +kernel, rfl, by decide +kernel, by decide +kernel⟩
theorem ok_law {n : Nat} (hn : n ≤ 63) {f : Addr} {fd : FuncData} (F : Fun K "law" "law" (top 64) f fd) (B : Bs mg) (c__law_cell_at : Cal P w K mg base k "_law_cell_at" ["_law_script", "_law_k"] (spCell K)) (c__law_move : Cal P w K mg base k "_law_move" ["_law_cell", "_law_cells"] spMove) (c_images : Cal P w K mg base k "images" ["row", "cells"] (spImg K)) (c__law_images_are : Cal P w K mg base k "_law_images_are" ["_law_found", "_law_board_here", "_law_row", "_law_cells"] (spImgAre K)) (c__law_board : Cal P w K mg base k "_law_board" ["_law_script", "_law_cells"] (spBoardN K))
    (c_unlike : Cal P w K mg base k "unlike" ["row", "other", "cells"] (spUnlike K)) (c__law_back : Cal P w K mg base k "_law_back" ["_law_move_here"] spBack) (c__law_foreign : Cal P w K mg base k "_law_foreign" ["_law_cells", "_law_far"] spForeign) (c__law_whole : Cal P w K mg base k "_law_whole" ["_law_found"] spWhole) (c__law_refused_at : Cal P w K mg base k "_law_refused_at" ["_law_which", "_law_row", "_law_good", "_law_cells"] spRef7) :
    FnOk P w K mg base CX0 (k + 1) f fd ["_law_script"] (spLaw K n) := by
  have nd := sc_law.nd
  refine F.ok sc_law (fun vs H Q E h => ?_) (fun cdv A outer s H vs Q E hr h => ?_)
  · obtain ⟨a, ns, rfl, _⟩ := h; rfl
  obtain ⟨sa, ns, rfl, hS, h63, lt, kk⟩ := h
  refine ⟨_, (@pss_cons _ _ _ _ _ (@ps_set _ _ 1 _ _ _ _ nd rfl (Or.inr rfl) (pe_op op_add pe_int (pe_op op_mod (pe_cal c__law_cell_at hr rfl (pa_cons (pv 0) (pa_cons pe_int pa_nil))) pe_int)) rfl (.inl rfl))
    (@pss_cons _ _ _ _ _ (@ps_set _ _ 2 _ _ _ _ nd rfl (Or.inl rfl) (pe_slice sl_list (pv 0) (po_some pe_int) (po_some pe_int)) rfl (.inl rfl))
    (@pss_cut _ _ _ _ _ (ps_if (pt_cmpR op_eq (pv 1) pe_int (nomark _))
      (@pss_one _ _ _ (@ps_set _ _ 2 _ _ _ _ nd rfl (Or.inl rfl) (pe_slice sl_list (pv 0) (po_some pe_int) (po_some pe_int)) rfl (.inl rfl)))
      pss_nil)
    (@pss_cut _ _ _ _ _ (ps_setLc (i := 3) rfl nd rfl rfl (LcOk.of (Nc := ["_law_cell", "_law_cells"]) (mp := [none, some 1]) (by kernel_rfl)) (pi_list (pv 2)) (fun _ _ _ _ => (pg_name (i := 0) (show (["_law_cell", "_law_cells"] : List Str).Nodup by decide +kernel) rfl (Or.inl rfl))) (fun _ _ _ _ => (pe_cal c__law_move hr rfl (pa_cons (pv 0) (pa_cons (pv 1) pa_nil)))) rfl)
    (@pss_cons _ _ _ _ _ (@ps_set _ _ 4 _ _ _ _ nd rfl (Or.inl rfl) (pe_callTy call_list_of rfl B.list boot_list (pa_cons (pv 3) pa_nil)) rfl (.inl rfl))
    (@pss_cut _ _ _ _ _ (@ps_set _ _ 5 _ _ _ _ nd rfl (Or.inl rfl) (pe_cal c_images hr rfl (pa_cons (pv 3) (pa_cons (pv 1) pa_nil))) rfl (.inl rfl))
    (@pss_cut _ _ _ _ _ (ps_if (PW.pt (pw_or (pt_not (pt_val (pe_cal c__law_images_are hr rfl (pa_cons (pv 5) (pa_cons (pe_cal c__law_board hr rfl (pa_cons (pv 0) (pa_cons (pv 1) pa_nil))) (pa_cons (pv 4) (pa_cons (pv 1) pa_nil))))))) (pw_or1 (pt_cmpR (op_neLM hr.units) (pv 3) (pv 4) (nomark _)))))
      (@pss_one _ _ _ (ps_ret pe_bl))
      pss_nil)
    (@pss_cons _ _ _ _ _ (@ps_set _ _ 6 _ _ _ _ nd rfl (Or.inl rfl) (pe_op op_mod (pe_cal c__law_cell_at hr rfl (pa_cons (pv 0) (pa_cons pe_int pa_nil))) (pe_op op_pow pe_int pe_int)) rfl (.inl rfl))
    (@pss_cut _ _ _ _ _ (@ps_set _ _ 7 _ _ _ _ nd rfl (Or.inl rfl) (pe_op op_mod (pv 6) (pe_op op_add (pe_callB call_len_seq rfl B.len PySem.boot_len (pa_cons (pv 3) pa_nil)) pe_int)) rfl (.inl rfl))
    (@pss_cons _ _ _ _ _ (@ps_set _ _ 8 _ _ _ _ nd rfl (Or.inl rfl) (pe_cal c__law_move hr rfl (pa_cons (pe_cal c__law_cell_at hr rfl (pa_cons (pv 0) (pa_cons pe_int pa_nil))) (pa_cons (pv 1) pa_nil))) rfl (.inl rfl))
    (@pss_cut _ _ _ _ _ (ps_if (pt_cmpR op_notN (pe_cal c_unlike hr rfl (pa_cons (pv 3) (pa_cons (pe_op op_cat (pe_op op_cat (pe_slice sl_list (pv 3) po_none (po_some (pv 7))) (@pe_lst _ _ _ _ (pa_cons (pv 8) (pa_cons (pe_cal c__law_back hr rfl (pa_cons (pv 8) pa_nil)) pa_nil)))) (pe_slice sl_list (pv 3) (po_some (pv 7)) po_none)) (pa_cons (pv 1) pa_nil)))) pe_non (nomark _))
      (@pss_one _ _ _ (ps_ret pe_bl))
      pss_nil)
    (@pss_cut _ _ _ _ _ (@ps_set _ _ 9 _ _ _ _ nd rfl (Or.inl rfl) (pe_op op_cat (pe_op op_cat (pe_slice sl_list (pv 3) po_none (po_some (pv 7))) (@pe_lst _ _ _ _ (pa_cons (pe_cal c__law_foreign hr rfl (pa_cons (pv 1) (pa_cons (pe_op op_fdiv (pv 6) pe_int) pa_nil))) pa_nil))) (pe_slice sl_list (pv 3) (po_some (pv 7)) po_none)) rfl (.inl rfl))
    (@pss_cut _ _ _ _ _ (ps_if (pt_cmpR op_eq (pe_op op_mod (pe_op op_fdiv (pv 6) pe_int) pe_int) pe_int (nomark _))
      (@pss_one _ _ _ (@ps_set _ _ 9 _ _ _ _ nd rfl (Or.inl rfl) (pe_op op_cat (pv 9) (@pe_lst _ _ _ _ (pa_cons (pe_cal c__law_foreign hr rfl (pa_cons (pv 1) (pa_cons (pe_op op_fdivS (pv 6) (pe_op op_pow pe_int pe_int)) pa_nil))) pa_nil))) rfl (.inl rfl)))
      pss_nil)
    (@pss_cons _ _ _ _ _ (@ps_set _ _ 10 _ _ _ _ nd rfl (Or.inl rfl) (pe_cal c__law_refused_at hr rfl (pa_cons (pe_op op_mod (pe_op op_fdivS (pv 6) (pe_op op_pow pe_int pe_int)) pe_int) (pa_cons (pv 9) (pa_cons (pv 3) (pa_cons (pv 1) pa_nil))))) rfl (.inl rfl))
    (@pss_one _ _ _ (ps_ret (pe_and (pe_cal c__law_whole hr rfl (pa_cons (pv 10) pa_nil)) (pe_and (pe_cmpR op_eq (pv 10) (pv 7) (nomark _)) (pe_one (pe_cmpR (op_eqLM hr.units) (pv 3) (pv 4) (nomark _))))))))))))))))))))), ?_⟩
  try dsimp only [cxK]
  have e0 := Int.emod_nonneg (cell ns 0) (show (3 : Int) ≠ 0 by decide)
  have e1 := Int.emod_lt_of_pos (cell ns 0) (show (0 : Int) < 3 by decide)
  obtain ⟨c, ec⟩ : ∃ c : Nat, (c : Int) = 1 + cell ns 0 % 3 := ⟨(1 + cell ns 0 % 3).toNat, by omega⟩
  have c1 : 1 ≤ c := by omega
  have c3 : c ≤ 3 := by omega
  refine ⟨_, rfl, sa, ns, 0, rfl, hS, Int.le_refl 0, _, _, rfl, rfl, (by decide : (0 : Int) < 3), _, _, rfl, rfl, ?_⟩
  show gName 1 (V.int (1 + cell ns 0 % 3)) _ _ _
  rw [← ec]
  obtain ⟨dr, edr, ldr⟩ := cut_ints' ns (some 3) (some 63)
  refine ⟨_, rfl, _, rfl, _, rfl, sa, _, rfl, hS, fun cp hcp => ?_⟩
  rw [edr]
  have s1 := same_new hcp (.lst (dr.map V.int))
  have q1 : upd H cp (.lst (dr.map V.int)) cp = some (.lst (dr.map V.int)) := upd_same
  generalize upd H cp (.lst (dr.map V.int)) = H1 at s1 q1 ⊢
  refine ⟨fun σ H' => Same H H' ∧ ∃ (d : Addr) (ds : List Int), H' d = some (.lst (ds.map V.int)) ∧ ds.length ≤ 63 ∧ σ = [some (.ref sa), some (.int c), some (.ref d), none, none, none, none, none, none, none, none], ?_, ?_⟩
  · refine ⟨_, rfl, rfl, _, rfl, eqI (fun _ => ?_) (fun _ => ⟨s1, cp, dr, q1, by omega, rfl⟩)⟩
    obtain ⟨dr2, edr2, ldr2⟩ := cut_ints' ns (some 3) (some 23)
    refine ⟨_, rfl, _, rfl, _, rfl, sa, _, rfl, s1.seq hS, fun cp2 hcp2 => ?_⟩
    rw [edr2]
    exact ⟨s1.trans (same_new hcp2 _), cp2, dr2, upd_same, by omega, rfl⟩
  clear q1 s1 H1 hcp edr ldr dr
  rintro σ H1 ⟨S1, d, ds, hd1, ld, rfl⟩
  refine ⟨fun σ H' => Same H1 H' ∧ ∃ (lr : Addr) (row : List Mv), RowAt H' lr row ∧ row.length ≤ 63 ∧ (∀ m ∈ row, VOk c m) ∧ (∀ m ∈ row, Br m) ∧ σ = [some (.ref sa), some (.int c), some (.ref d), some (.ref lr), none, none, none, none, none, none, none], ?_, ?_⟩
  · refine ⟨_, rfl, d, rfl, ⟨_, SqL.of hd1⟩, fun acc hacc => ?_⟩
    refine lc_list (K := K) (a := d) (xs := ds.map V.int) (fr := [some (.int c)]) (fun i ys H' => ∃ (rp : List Addr) (row : List Mv), Same H1 H' ∧ H' acc = some (.lst ys) ∧ ys = rp.map V.ref ∧ row.length = i ∧ RowsM H' rp (row.map mm) ∧ (∀ m ∈ row, VOk c m) ∧ ∀ m ∈ row, Br m) (by rw [List.length_map]; exact t64 (by omega)) ⟨[], [], same_new hacc _, upd_same, rfl, rfl, .nil, by simp, by simp⟩ (fun i ys H' e => by obtain ⟨_, _, s5, _⟩ := e; exact s5.seq (SqL.of hd1)) ?_ ?_
    · rintro i x ys H5 N hx hy ⟨rp, row, S5, a5, rfl, rl, M5, O5, B5⟩ kN
      rw [List.getElem?_map] at hx
      obtain ⟨cl, hcl, rfl⟩ := Option.map_eq_some_iff.mp hx
      refine ⟨_, rfl, _, rfl, cl, c, rfl, c1, by omega, fun r H6 m S6 hr6 om bm => ?_⟩
      refine kN (.ref r) H6 (S6 _ _ a5) ⟨rp ++ [r], row ++ [m], same_upd (S5.trans S6) hacc, upd_same, by rw [List.map_append]; rfl, by simp [rl], ?_, fun x hx => ?_, fun x hx => ?_⟩
      · rw [List.map_append]
        have hl6 := S6 _ _ a5
        exact pm_imp (fun _ _ e => by rw [upd_ne (ne_of e hl6 (by intro z; cases z))]; exact e) (rows_app (M5.same S6) (.cons hr6 .nil))
      · rcases List.mem_append.mp hx with q | q
        · exact O5 x q
        · rw [List.mem_singleton.mp q]; exact om
      · rcases List.mem_append.mp hx with q | q
        · exact B5 x q
        · rw [List.mem_singleton.mp q]; exact bm
    · rintro ys H5 hy ⟨rp, row, S5, a5, rfl, rl, M5, O5, B5⟩
      rw [List.length_map] at rl
      exact ⟨S5, acc, row, ⟨rp, a5, M5⟩, by omega, O5, B5, rfl⟩
  rintro σ H2 ⟨S2, lr, row, R2, l63, ok, br, rfl⟩
  have SA2 := S1.trans S2
  obtain ⟨rp, hl2, hr2⟩ := id R2
  have pl : rp.length = row.length := by have := rows_len hr2; rw [List.length_map] at this; exact this
  have aok : AllOk (row.map mm) := fun m hm => by
    obtain ⟨x, _, rfl⟩ := List.mem_map.mp hm
    exact okS x
  have brb : ∀ y ∈ row, brB y = true := br_all ok br
  refine ⟨_, rfl, lr, _, rfl, .inl (SqL.of hl2), fun lk hlk => ?_⟩
  have s3 := same_new hlk (.lst (rp.map V.ref))
  have q3 : upd H2 lk (.lst (rp.map V.ref)) lk = some (.lst (rp.map V.ref)) := upd_same
  generalize upd H2 lk (.lst (rp.map V.ref)) = H3 at s3 q3 ⊢
  refine ⟨fun σ H' => Same H3 H' ∧ ∃ (lf : Addr) (qs : List Addr), MksAt K H' lf qs ((pmk c).map (mvds row)) ∧ σ = [some (.ref sa), some (.int c), some (.ref d), some (.ref lr), some (.ref lk), some (.ref lf), none, none, none, none, none], ?_, ?_⟩
  · exact ⟨_, rfl, _, rfl, lr, row, c, rfl, R2.same s3, by omega, ok, br, by omega, fun l H4 qs nl S4 M4 => ⟨S4, l, qs, M4, rfl⟩⟩
  rintro σ H4 ⟨S4, lf, qs, M4, rfl⟩
  have S24 := s3.trans S4
  refine ⟨fun σ H' => Same H4 H' ∧ σ = [some (.ref sa), some (.int c), some (.ref d), some (.ref lr), some (.ref lk), some (.ref lf), none, none, none, none, none], ?_, ?_⟩
  · refine ⟨_, rfl, _, rfl, _, rfl, sa, ns, c, rfl, (SA2.trans S24).seq hS, lt, c1, by omega, fun lb H5 ps f S5 nb B5 => ?_⟩
    have S25 := S24.trans S5
    refine ⟨_, rfl, _, rfl, lf, lb, lk, qs, ps, f, row, c, rfl, ⟨S5 _ _ M4.1, pm_imp (fun _ _ e => S5.tup e) M4.2⟩, B5, ⟨rp, (S4.trans S5) _ _ q3, hr2.same S25⟩, by omega, ok, br, by omega, fun H6 S6 => ?_⟩
    refine ⟨_, rfl, iteF ?_⟩
    have S26 := S25.trans S6
    refine ⟨_, rfl, _, rfl, lr, lk, rp, rp, row.map mm, row.map mm, rfl, rfl, S26 _ _ hl2, ((S4.trans S5).trans S6) _ _ q3, hr2.same S26, hr2.same S26, aok, aok, _, rfl, ?_⟩
    rw [decide_eq_true rfl]
    exact iteF ⟨S5.trans S6, rfl⟩
  rintro σ H5 ⟨S5, rfl⟩
  have S25 := S24.trans S5
  have SA5 := SA2.trans S25
  have R5 := R2.same S25
  have hl5 := S25 _ _ hl2
  have hr5 := hr2.same S25
  have q5 := (S4.trans S5) _ _ q3
  clear S24 M4 S4 q3 s3 hlk hr2 hl2 R2 SA2 S2 hd1 S1
  have t15 : (0 : Int) < 10 ^ (15 : Int).toNat := by decide +kernel
  refine ⟨_, rfl, sa, ns, 1, rfl, SA5.seq hS, by decide, _, _, rfl, rfl, ⟨by decide, by decide, by decide⟩, _, _, rfl, rfl, t15, ?_⟩
  have b0 := Int.emod_nonneg (cell ns 1) (Int.ne_of_gt t15)
  have lp : (0 : Int) < (row.length : Int) + 1 := by omega
  have a0 := Int.emod_nonneg (cell ns 1 % 10 ^ (15 : Int).toNat) (Int.ne_of_gt lp)
  have a1 := Int.emod_lt_of_pos (cell ns 1 % 10 ^ (15 : Int).toNat) lp
  refine ⟨fun σ H' => H5 = H' ∧ ∃ (fb : Int) (i : Nat), 0 ≤ fb ∧ i ≤ row.length ∧ σ = [some (.ref sa), some (.int c), some (.ref d), some (.ref lr), some (.ref lk), some (.ref lf), some (.int fb), some (.int i), none, none, none], ?_, ?_⟩
  · refine ⟨_, rfl, _, rfl, lr, _, rfl, .inl (SqL.of hl5), _, _, rfl, rfl, _, _, rfl, rfl, ?_, rfl, cell ns 1 % 10 ^ (15 : Int).toNat, (cell ns 1 % 10 ^ (15 : Int).toNat % ((row.length : Int) + 1)).toNat, b0, by omega, ?_⟩
    · rw [List.length_map, pl]; exact lp
    · rw [List.length_map, pl, Int.toNat_of_nonneg a0]
      rfl
  rintro σ _ ⟨rfl, fb, i, fb0, il, rfl⟩
  clear a0 a1 b0 lp
  refine ⟨_, rfl, sa, ns, 2, rfl, SA5.seq hS, by decide, _, rfl, _, c, rfl, c1, by omega, fun te H6 x S6 hx6 vx bx => ?_⟩
  refine ⟨fun σ H' => Same H5 H' ∧ σ = [some (.ref sa), some (.int c), some (.ref d), some (.ref lr), some (.ref lk), some (.ref lf), some (.int fb), some (.int i), some (.ref te), none, none], ?_, ?_⟩
  · refine ⟨_, rfl, _, rfl, _, rfl, _, rfl, lr, _, rfl, SqL.of (S6 _ _ hl5), fun cp hcp => ?_⟩
    rw [cut_to rfl]
    have s1 := same_new hcp (.lst ((rp.map V.ref).take i))
    have q1 : upd H6 cp (.lst ((rp.map V.ref).take i)) cp = some (.lst ((rp.map V.ref).take i)) := upd_same
    generalize upd H6 cp (.lst ((rp.map V.ref).take i)) = G1 at s1 q1 ⊢
    refine ⟨_, rfl, _, rfl, te, x, rfl, s1 _ _ hx6, fun tb G2 s2 hb => ?_⟩
    refine ⟨t2, fun l1 h1 => ?_⟩
    have s3 := same_new h1 (.lst [V.ref te, V.ref tb])
    have q3 : upd G2 l1 (.lst [V.ref te, V.ref tb]) l1 = some (.lst [V.ref te, V.ref tb]) := upd_same
    generalize upd G2 l1 (.lst [V.ref te, V.ref tb]) = G3 at s3 q3 ⊢
    refine ⟨cp, l1, _, _, rfl, rfl, (s2.trans s3) _ _ q1, q3, ?_, fun l2 h2 => ?_⟩
    · simp only [List.length_append, List.length_take, List.length_map, List.length_cons, List.length_nil]
      exact Nat.le_trans (show _ ≤ 100 by omega) (by decide)
    have s4 := same_new h2 (.lst ((rp.map V.ref).take i ++ [V.ref te, V.ref tb]))
    have q4 : upd G3 l2 (.lst ((rp.map V.ref).take i ++ [V.ref te, V.ref tb])) l2 = some (.lst ((rp.map V.ref).take i ++ [V.ref te, V.ref tb])) := upd_same
    generalize upd G3 l2 (.lst ((rp.map V.ref).take i ++ [V.ref te, V.ref tb])) = G4 at s4 q4 ⊢
    have T4 := ((s1.trans s2).trans s3).trans s4
    refine ⟨_, rfl, _, rfl, _, rfl, lr, _, rfl, SqL.of ((S6.trans T4) _ _ hl5), fun l3 h3 => ?_⟩
    rw [cut_from rfl]
    have s5 := same_new h3 (.lst ((rp.map V.ref).drop i))
    have q5' : upd G4 l3 (.lst ((rp.map V.ref).drop i)) l3 = some (.lst ((rp.map V.ref).drop i)) := upd_same
    generalize upd G4 l3 (.lst ((rp.map V.ref).drop i)) = G5 at s5 q5' ⊢
    refine ⟨l2, l3, _, _, rfl, rfl, s5 _ _ q4, q5', ?_, fun l4 h4 => ?_⟩
    · simp only [List.length_append, List.length_take, List.length_drop, List.length_map, List.length_cons, List.length_nil]
      exact Nat.le_trans (show _ ≤ 200 by omega) (by decide)
    have s6 := same_new h4 (.lst (((rp.map V.ref).take i ++ [V.ref te, V.ref tb]) ++ (rp.map V.ref).drop i))
    have q6 : upd G5 l4 (.lst (((rp.map V.ref).take i ++ [V.ref te, V.ref tb]) ++ (rp.map V.ref).drop i)) l4 = _ := upd_same
    generalize upd G5 l4 (.lst (((rp.map V.ref).take i ++ [V.ref te, V.ref tb]) ++ (rp.map V.ref).drop i)) = G6 at s6 q6 ⊢
    have T6 := (T4.trans s5).trans s6
    have S56 := S6.trans T6
    have RO : RowAt G6 l4 (put2 row i x) := row_put2 (hr5.same S56) (T6 _ _ hx6) ((((s3.trans s4).trans s5).trans s6) _ _ hb) q6
    have pln := put2_len (row := row) (i := i) (x := x)
    refine ⟨_, rfl, lr, l4, row, put2 row i x, c, rfl, R5.same S56, RO, by omega, ok, br, by omega, put2_all ok vx (M77.bk_ok vx), put2_all br bx (M77.bk_br vx.1 bx), by omega, fun v G7 S7 O7 => ?_⟩
    have me : (pmk c).map (mvds (put2 row i x)) = (pmk c).map (mvds row) := List.map_congr_left fun m hm => put2_mk ok vx bx (pmk_ok hm)
    rw [me, dif_same] at O7
    have O7 : v = .non := O7
    subst O7
    refine ⟨rfl, _, rfl, nblI (fun z => absurd rfl (of_decide_eq_false z)) (fun _ => ⟨S56.trans S7, rfl⟩)⟩
  clear hx6 S6 H6
  rintro σ H6 ⟨S6, rfl⟩
  have hl6 := S6 _ _ hl5
  refine ⟨fun σ H' => Same H5 H' ∧ ∃ (l2 : Addr) (y : Mv), RowAt H' l2 (put row i y) ∧ brB y = false ∧ σ = [some (.ref sa), some (.int c), some (.ref d), some (.ref lr), some (.ref lk), some (.ref lf), some (.int fb), some (.int i), some (.ref te), some (.ref l2), none], ?_, ?_⟩
  · refine ⟨_, rfl, _, rfl, _, rfl, lr, _, rfl, SqL.of hl6, fun cp hcp => ?_⟩
    rw [cut_to rfl]
    have s1 := same_new hcp (.lst ((rp.map V.ref).take i))
    have q1 : upd H6 cp (.lst ((rp.map V.ref).take i)) cp = some (.lst ((rp.map V.ref).take i)) := upd_same
    generalize upd H6 cp (.lst ((rp.map V.ref).take i)) = G1 at s1 q1 ⊢
    refine ⟨_, rfl, _, rfl, _, _, rfl, rfl, ⟨by decide, by decide⟩, _, c, rfl, Int.ediv_nonneg fb0 (by decide), c1, by omega, fun t G2 y s2 ht vy bY => ?_⟩
    refine ⟨(show 1 ≤ sizeLine by decide), fun l1 h1 => ?_⟩
    have s3 := same_new h1 (.lst [V.ref t])
    have q3 : upd G2 l1 (.lst [V.ref t]) l1 = some (.lst [V.ref t]) := upd_same
    generalize upd G2 l1 (.lst [V.ref t]) = G3 at s3 q3 ⊢
    refine ⟨cp, l1, _, _, rfl, rfl, (s2.trans s3) _ _ q1, q3, ?_, fun l2 h2 => ?_⟩
    · simp only [List.length_append, List.length_take, List.length_map, List.length_singleton]
      exact Nat.le_trans (show _ ≤ 100 by omega) (by decide)
    have s4 := same_new h2 (.lst ((rp.map V.ref).take i ++ [V.ref t]))
    have q4 : upd G3 l2 (.lst ((rp.map V.ref).take i ++ [V.ref t])) l2 = some (.lst ((rp.map V.ref).take i ++ [V.ref t])) := upd_same
    generalize upd G3 l2 (.lst ((rp.map V.ref).take i ++ [V.ref t])) = G4 at s4 q4 ⊢
    have T4 := ((s1.trans s2).trans s3).trans s4
    refine ⟨_, rfl, _, rfl, _, rfl, lr, _, rfl, SqL.of (T4 _ _ hl6), fun l3 h3 => ?_⟩
    rw [cut_from rfl]
    have s5 := same_new h3 (.lst ((rp.map V.ref).drop i))
    have q5' : upd G4 l3 (.lst ((rp.map V.ref).drop i)) l3 = some (.lst ((rp.map V.ref).drop i)) := upd_same
    generalize upd G4 l3 (.lst ((rp.map V.ref).drop i)) = G5 at s5 q5' ⊢
    refine ⟨l2, l3, _, _, rfl, rfl, s5 _ _ q4, q5', ?_, fun l4 h4 => ?_⟩
    · simp only [List.length_append, List.length_take, List.length_drop, List.length_map, List.length_singleton]
      exact Nat.le_trans (show _ ≤ 200 by omega) (by decide)
    have s6 := same_new h4 (.lst (((rp.map V.ref).take i ++ [V.ref t]) ++ (rp.map V.ref).drop i))
    have T6 := S6.trans ((T4.trans s5).trans s6)
    refine ⟨T6, l4, y, row_put (hr5.same T6) ((((s3.trans s4).trans s5).trans s6) _ _ ht) upd_same, bY, rfl⟩
  clear hl6 S6 H6
  rintro σ H6 ⟨S6, l2, y, R6, bY, rfl⟩
  have F6 := Fst.put1 il brb bY
  obtain ⟨r2, h2, m2⟩ := id R6
  have lr2 : r2.length = row.length + 1 := by
    have := rows_len m2
    rw [List.length_map, put_len il] at this
    exact this
  refine ⟨fun σ H' => Same H5 H' ∧ ∃ (l3 : Addr) (r3 : List Mv), RowAt H' l3 r3 ∧ r3.length ≤ 100 ∧ Fst r3 i ∧ σ = [some (.ref sa), some (.int c), some (.ref d), some (.ref lr), some (.ref lk), some (.ref lf), some (.int fb), some (.int i), some (.ref te), some (.ref l3), none], ?_, ?_⟩
  · refine ⟨_, rfl, _, _, rfl, rfl, ⟨by decide, by decide⟩, _, _, rfl, rfl, (by decide : (0 : Int) < 2), rfl, _, rfl, eqI (fun _ => ?_) (fun _ => ⟨S6, l2, _, R6, by rw [put_len il]; omega, F6, rfl⟩)⟩
    have tp : (0 : Int) < 2 ^ (13 : Int).toNat := by decide +kernel
    refine ⟨_, rfl, _, rfl, _, rfl, _, _, rfl, rfl, ⟨by decide, by decide, by decide⟩, _, _, rfl, rfl, ⟨Int.ne_of_gt tp, by decide +kernel⟩, _, c, rfl, Int.fdiv_nonneg fb0 (Int.le_of_lt tp), c1, by omega, fun t G2 z s2 ht vz bZ => ?_⟩
    refine ⟨(show 1 ≤ sizeLine by decide), fun l1 h1 => ?_⟩
    have s3 := same_new h1 (.lst [V.ref t])
    have q3 : upd G2 l1 (.lst [V.ref t]) l1 = some (.lst [V.ref t]) := upd_same
    generalize upd G2 l1 (.lst [V.ref t]) = G3 at s3 q3 ⊢
    refine ⟨l2, l1, _, _, rfl, rfl, (s2.trans s3) _ _ h2, q3, ?_, fun l4 h4 => ?_⟩
    · simp only [List.length_map, List.length_singleton]
      exact Nat.le_trans (show _ ≤ 100 by omega) (by decide)
    have s4 := same_new h4 (.lst (r2.map V.ref ++ [V.ref t]))
    have T4 := (s2.trans s3).trans s4
    refine ⟨S6.trans T4, l4, put row i y ++ [z], ⟨r2 ++ [t], by rw [upd_same, List.map_append]; rfl, ?_⟩, by rw [List.length_append, put_len il, List.length_singleton]; omega, F6.snoc, rfl⟩
    rw [List.map_append]
    exact rows_app (m2.same T4) (.cons ((s3.trans s4) _ _ ht) .nil)
  rintro σ H7 ⟨S7, l3, r3, R7, l100, F7, rfl⟩
  have tp4 : (0 : Int) < 2 ^ (14 : Int).toNat := by decide +kernel
  refine ⟨_, rfl, _, _, rfl, rfl, ⟨by decide, by decide, by decide⟩, _, _, rfl, rfl, ⟨Int.ne_of_gt tp4, by decide +kernel⟩, _, _, rfl, rfl, (by decide : (0 : Int) < 5), _, rfl, _, rfl, _, rfl, l3, lr, r3, row, c, i, _, rfl, by omega, R7, l100, F7.at, R5.same S7, ok, br, by omega, fun H8 S8 => ?_⟩
  refine ⟨_, rfl, _, rfl, _, rfl, iteT ?_⟩
  refine ⟨_, rfl, _, rfl, rfl, _, rfl, eqI (fun _ => ?_) (fun z => absurd rfl z)⟩
  have S58 := S7.trans S8
  refine ⟨_, rfl, _, rfl, lr, lk, rp, rp, row.map mm, row.map mm, rfl, rfl, S58 _ _ hl5, S58 _ _ q5, hr5.same S58, hr5.same S58, aok, aok, ?_⟩
  rw [decide_eq_true rfl]
  exact kk _
end
end K55S

noncomputable section
namespace K73
open PySem PySem.Spec PyProof.Rows L2 Ba
/-- what the top has written -/
theorem all_mk {l : PySem.W.OpenLaw} {w : World} {K : PySem.W.Frag} {h : Heap} {mg : Str → Option Value} {fa f : Addr} (X : K.In h) (G : h.Ns mainGlobals mg) (hfa : mg "law" = some (.ref fa))
    {od an : Option Addr} {sl : Array (Option Value)} {oc kV dc pm cd ct : Value} {C D fi aN A_NoCell A_NoMove A_NoTable : Addr} {bm bm2 : List Value} {nN : Nat} {a1 a2 a3 a4 a5 a6 a7 b1 b2 b3 b4 b5 b6 b7 : Tok}
    (aL : PySem.W.nsIn K mainGlobals "law" = some (some (.ref f))) (lL : K.lookup f = some ⟨oc, od, .func (PySem.W.fnOf "law" "law" (defArgs (top 64)) (defBody (top 64)) (defScope (top 64)) .none kV dc pm an cd ct), sl⟩) (cL : PySem.W.codeIn K cd "law" = true) (kL : PySem.W.keepIn K (.ref f) = true)
    (t7 : FunAt K "is_whole" (top 7) .none)
    (t9 : FunAt K "ones" (top 9) .none)
    (t10 : FunAt K "turned_about" (top 10) .none)
    (t12 : FunAt K "halved_out" (top 12) .none)
    (t13 : FunAt K "plus" (top 13) .none)
    (t14 : FunAt K "minus" (top 14) .none)
    (t15 : FunAt K "spun" (top 15) .none)
    (t16 : FunAt K "spun_once" (top 16) .none)
    (t17 : FunAt K "rooted" (top 17) .none)
    (t19 : FunAt K "cells_of" (top 19) .none)
    (t20 : FunAt K "laid_on" (top 20) .none)
    (t21 : FunAt K "spun_by_mark" (top 21) .none)
    (t24 : FunAt K "check_move" (top 24) .none)
    (t25 : FunAt K "has_move_form" (top 25) .none)
    (t26 : FunAt K "named_cells" (top 26) .none)
    (t27 : FunAt K "turned" (top 27) .none)
    (t28 : FunAt K "mixed" (top 28) .none)
    (t29 : FunAt K "mixed_at" (top 29) .none)
    (t30 : FunAt K "spun_where" (top 30) .none)
    (t31 : FunAt K "word_behind" (top 31) .none)
    (t32 : FunAt K "exchanged" (top 32) .none)
    (t34 : FunAt K "borne" (top 34) .none)
    (t35 : FunAt K "is_borne" (top 35) .none)
    (t36 : FunAt K "is_odd_turn" (top 36) .none)
    (t37 : FunAt K "moved_rows" (top 37) .none)
    (t38 : FunAt K "check_borne" (top 38) .none)
    (t39 : FunAt K "moved_through" (top 39) .none)
    (t40 : FunAt K "moved_by" (top 40) .none)
    (t41 : FunAt K "moved_by_mix" (top 41) .none)
    (t42 : FunAt K "moved_by_turn" (top 42) .none)
    (t43 : FunAt K "moved_by_if" (top 43) .none)
    (t44 : FunAt K "moved_by_pair" (top 44) .none)
    (t46 : FunAt K "images" (top 46) .none)
    (t47 : FunAt K "plain_marks" (top 47) .none)
    (t48 : FunAt K "unlike" (top 48) .none)
    (t50 : FunAt K "run" (top 50) .none)
    (t52 : FunAt K "_law_cell_at" (top 52) .none)
    (t53 : FunAt K "_law_whole" (top 53) .none)
    (t54 : FunAt K "_law_number" (top 54) .none)
    (t55 : FunAt K "_law_lowest" (top 55) .none)
    (t56 : FunAt K "_law_amount" (top 56) .none)
    (t57 : FunAt K "_law_board" (top 57) .none)
    (t58 : FunAt K "_law_move" (top 58) .none)
    (t59 : FunAt K "_law_back" (top 59) .none)
    (t60 : FunAt K "_law_foreign" (top 60) .none)
    (t61 : FunAt K "_law_is_mark" (top 61) .none)
    (t62 : FunAt K "_law_refused_at" (top 62) .none)
    (t63 : FunAt K "_law_images_are" (top 63) .none)
    (z0 : PySem.W.nsIn K mainGlobals "isinstance" = some none)
    (z1 : PySem.W.nsIn K mainGlobals "int" = some none)
    (z2 : PySem.W.nsIn K mainGlobals "bool" = some none)
    (z3 : PySem.W.nsIn K mainGlobals "tuple" = some none)
    (z4 : PySem.W.nsIn K mainGlobals "list" = some none)
    (z5 : PySem.W.nsIn K mainGlobals "len" = some none)
    (z6 : PySem.W.nsIn K mainGlobals "range" = some none)
    (z7 : PySem.W.nsIn K mainGlobals "all" = some none)
    (z8 : PySem.W.nsIn K mainGlobals "any" = some none)
    (z9 : PySem.W.nsIn K mainGlobals "max" = some none)
    (z10 : PySem.W.nsIn K mainGlobals "min" = some none)
    (z11 : PySem.W.nsIn K mainGlobals "zip" = some none)
    (z12 : PySem.W.nsIn K mainGlobals "set" = some none)
    (z13 : PySem.W.nsIn K mainGlobals "str" = some none)
    (z14 : PySem.W.nsIn K mainGlobals "enumerate" = some none)
    (z15 : PySem.W.nsIn K mainGlobals "reversed" = some none)
    (gN0 : PySem.W.nsIn K mainGlobals "NUMBERS_BEHIND" = some (some (.ref aN)))
    (tN : K.lookup aN = some ⟨.type "dict", none, .dict #[⟨PyData.keyHash w.params "flip", .str "flip" a1, .int 1 b1⟩, ⟨PyData.keyHash w.params "mix", .str "mix" a2, .int 1 b2⟩, ⟨PyData.keyHash w.params "turn", .str "turn" a3, .int 2 b3⟩, ⟨PyData.keyHash w.params "if", .str "if" a4, .int 2 b4⟩, ⟨PyData.keyHash w.params "pair", .str "pair" a5, .int 2 b5⟩, ⟨PyData.keyHash w.params "swap", .str "swap" a6, .int 2 b6⟩, ⟨PyData.keyHash w.params "cross", .str "cross" a7, .int 3 b7⟩] nN, #[]⟩)
    (nN0 : (aN == sysModules) = false)
    (aC : PySem.W.nsIn K mainGlobals "NotBorne" = some (some (.ref C)))
    (aD : PySem.W.nsIn K mainGlobals "BoardError" = some (some (.ref D)))
    (zV : PySem.W.nsIn K mainGlobals "ValueError" = some none)
    (ia : InitAt K C fi "NotBorne.__init__" (inClass (top 5) 0) bm)
    (na : NoAttr K C "place")
    (xD : ExcAt K D bm2)
    (sub : (Value.ref C :: bm).contains (.ref D) = true)
    (own : PySem.W.kitOne K (.ref C) (.ref C) = some true)
    (ve : PySem.W.kitOne K (.ref C) (.type "ValueError") = some true)
    (n_NoCell : PySem.W.nsIn K mainGlobals "NoCell" = some (some (.ref A_NoCell)))
    (q_NoCell : PySem.W.kitOne K (.ref C) (.ref A_NoCell) = some false)
    (n_NoMove : PySem.W.nsIn K mainGlobals "NoMove" = some (some (.ref A_NoMove)))
    (q_NoMove : PySem.W.kitOne K (.ref C) (.ref A_NoMove) = some false)
    (n_NoTable : PySem.W.nsIn K mainGlobals "NoTable" = some (some (.ref A_NoTable)))
    (q_NoTable : PySem.W.kitOne K (.ref C) (.ref A_NoTable) = some false)
    : ∃ fd : FuncData, (∀ (s : Shared) (v : Value), BindsTo s fd ⟨[v], []⟩ [("_law_script", v)]) ∧ ∀ base : Heap, K.In base → base.Ns mainGlobals mg → FnOk l.prog w K mg base CX0 9 fa fd ["_law_script"] (spLaw K 63) := by
  have e := hfa.symm.trans (PySem.W.mg_of X G aL)
  cases e
  have F := fun_mk (st := top 64) lL cL kL
  have B : Bs mg := ⟨PySem.W.mg_none_of X G z0, PySem.W.mg_none_of X G z1, PySem.W.mg_none_of X G z2, PySem.W.mg_none_of X G z3, PySem.W.mg_none_of X G z4, PySem.W.mg_none_of X G z5, PySem.W.mg_none_of X G z6, PySem.W.mg_none_of X G z7, PySem.W.mg_none_of X G z8, PySem.W.mg_none_of X G z9, PySem.W.mg_none_of X G z10, PySem.W.mg_none_of X G z11, PySem.W.mg_none_of X G z12, PySem.W.mg_none_of X G z13, PySem.W.mg_none_of X G z14, PySem.W.mg_none_of X G z15⟩
  refine ⟨PySem.W.fnOf "law" "law" (defArgs (top 64)) (defBody (top 64)) (defScope (top 64)) .none kV dc pm an cd ct, fun s v => .of_eq rfl, fun base _ _ => ?_⟩
  have gN := PySem.W.mg_of X G gN0
  have DN : KDic K w.params aN NB := ⟨⟨_, _, _, tN, ⟨rfl, rfl, rfl⟩, rfl, .cons ⟨_, _, rfl⟩ (.cons ⟨_, _, rfl⟩ (.cons ⟨_, _, rfl⟩ (.cons ⟨_, _, rfl⟩ (.cons ⟨_, _, rfl⟩ (.cons ⟨_, _, rfl⟩ (.cons ⟨_, _, rfl⟩ .nil))))))⟩, by decide +kernel, nN0⟩
  have c12 := ok_half (P := l.prog) (w := w) (base := base) (k := 0) t12 X G B
  have c16 := ok_once (P := l.prog) (w := w) (base := base) (k := 0) t16 X G
  have c17 := ok_rooted t17 X G c12
  have c15 := ok_spun t15 X G B c16
  have c13 := ok_plus t13 X G B c12
  have c14 := ok_minus t14 X G c13 c15
  have c7 := ok_iswhole (P := l.prog) (w := w) (base := base) (k := 0) t7 X G B
  have c19 := ok_cellsof (P := l.prog) (w := w) (base := base) (k := 0) t19 X G B
  have c26 := ok_named (P := l.prog) (w := w) (base := base) (k := 0) t26 X G B
  have c25 := ok_form t25 X G B gN DN c7
  have c24 := ok_check t24 X G B c25 (c26.mono (by decide))
  have c29 := ok_mixedat t29 X G (c17.mono (by decide)) c14 (c13.mono (by decide))
  have c28 := ok_mixed t28 X G B c29
  have c32 := ok_exch (P := l.prog) (w := w) (base := base) (k := 0) t32 X G
  have c31 := ok_behind t31 X G c26 c32
  have c30 := ok_where t30 X G B c15
  have c27 := ok_turned (k := 5) t27 X G B (c24.mono (by decide)) (c19.mono (by decide)) c28 (c30.mono (by decide)) (c31.mono (by decide))
  have c50 := ok_run t50 X G B c27
  have c52 := ok_cell (P := l.prog) (w := w) (base := base) (k := 0) t52 X G B
  have ex : K55S.Exs K mg C D bm bm2 := ⟨PySem.W.mg_of X G aC, PySem.W.mg_of X G aD, PySem.W.mg_none_of X G zV, xD, sub, own, ve, A_NoCell, PySem.W.mg_of X G n_NoCell, q_NoCell, A_NoMove, PySem.W.mg_of X G n_NoMove, q_NoMove, A_NoTable, PySem.W.mg_of X G n_NoTable, q_NoTable⟩
  have c10 := K55S.ok_about (P := l.prog) (w := w) (base := base) (k := 0) t10 X G
  have c41 := K55S.ok_bymix t41 X G c10
  have c42 := K55S.ok_byturn (P := l.prog) (w := w) (base := base) (k := 0) t42 X G
  have c43 := K55S.ok_byif (P := l.prog) (w := w) (base := base) (k := 0) t43 X G
  have c44 := K55S.ok_bypair t44 X G c10
  have c40 := K55S.ok_movedby (k := 2) t40 X G (c10.mono (by decide)) (c41.mono (by decide)) (c42.mono (by decide)) (c43.mono (by decide)) (c44.mono (by decide)) (c32.mono (by decide))
  have c39 := K55S.ok_through t39 X G c40
  have c36 := K55S.ok_odd (P := l.prog) (w := w) (base := base) (k := 0) t36 X G
  have c35 := K55S.ok_isbr t35 X G c36
  have c34 := K55S.ok_borne t34 X G B c35
  have c38 := K55S.ok_chk t38 X G c34
  have c37 := K55S.ok_mrows (k := 4) t37 X G B (c38.mono (by decide)) (c39.mono (by decide))
  have c9 := K55S.ok_ones (P := l.prog) (w := w) (base := base) (k := 0) t9 X G
  have c21 := K55S.ok_smark (k := 2) t21 X G (c15.mono (by decide)) (c9.mono (by decide))
  have c20 := K55S.ok_laid t20 X G B c21
  have c47 := K55S.ok_plain (P := l.prog) (w := w) (base := base) (k := 0) t47 X G B
  have c46 := K55S.ok_img (k := 5) t46 X G (c37.mono (by decide)) (c47.mono (by decide))
  have c48 := K55S.ok_unl t48 X G B c46 (c47.mono (by decide))
  have ci : InitCal l.prog w K mg base 2 C bm "place" := K55S.ok_init ia na
  have x1 := K55S.okx_chk t38 X G ex ci c34
  have x2 := K55S.okx_mrows t37 X G x1
  have x3 := K55S.okx_img t46 X G x2 (c47.mono (by decide))
  have x4 := K55S.okx_unl t48 X G x3 c46
  have c62 := K55S.ok_ref t62 X G B ex ci.cls ci.g na (x3.mono (by decide)) x4
  have c53 := K55S.ok_whole (P := l.prog) (w := w) (base := base) (k := 0) t53 X G B
  have c54 := ok_number (P := l.prog) (w := w) (base := base) (k := 0) t54 X G B
  have c55 := ok_lowest (P := l.prog) (w := w) (base := base) (k := 0) t55 X G B
  have c56 := ok_amtn t56 X G B c55
  have c57 := ok_board t57 X G B (c54.mono (by decide)) c56
  have c58 := K55S.ok_move (P := l.prog) (w := w) (base := base) (k := 0) t58 X G B
  have c59 := K55S.ok_bk (P := l.prog) (w := w) (base := base) (k := 0) t59 X G
  have c60 := K55S.ok_foreign (P := l.prog) (w := w) (base := base) (k := 0) t60 X G
  have c61 := K55S.ok_ismark t61 X G B c53
  have c63 := K55S.ok_imgare (k := 7) t63 X G B (c50.mono (by decide)) (c61.mono (by decide)) (c20.mono (by decide))
  exact K55S.ok_law (k := 8) (by decide) F B (c52.mono (by decide)) (c58.mono (by decide)) (c46.mono (by decide)) (c63.mono (by decide)) (c57.mono (by decide)) (c48.mono (by decide)) (c59.mono (by decide)) (c60.mono (by decide)) (c53.mono (by decide)) (c62.mono (by decide))
theorem walk {l : PySem.W.OpenLaw} {q : Program} {loose : List Str} {XP : (Str → Option Value) → Heap → Prop} {YP : World → Heap → Prop} {d : DefRec} {K : Params → PySem.W.Frag} (hn : l.most = some 63) (hdf : d.params.defaults = [])
    (hY : ∀ (w : World) (h : Heap), YP w h → (K w.params).In h)
    (F : ∀ (w : World) (mg : Str → Option Value) (fa : Addr) (h : Heap), (K w.params).In h → h.Ns mainGlobals mg → mg d.name = some (.ref fa) →
      ∃ fd : FuncData, (∀ (s : Shared) (u : Value), BindsTo s fd ⟨[u], []⟩ [("_law_script", u)]) ∧ ∀ base : Heap, (K w.params).In base → base.Ns mainGlobals mg → FnOk l.prog w (K w.params) mg base CX0 9 fa fd ["_law_script"] (spLaw (K w.params) 63)) :
    PySem.W.WalkO q loose XP YP l.row.toRowW d [] (fun f vs => PySem.call f vs) :=
  L2.walk_light (n := 63) (k := 9) (x := "_law_script") (CX := fun _ => CX0) (sp := fun w => spLaw (K w.params) 63) hn (by decide) hdf ⟨rfl, by decide, by decide⟩ hY F (fun _ _ a ns hl lt hS => ⟨a, ns, rfl, hS, hl, lt, fun _ => rfl⟩) fun _ _ _ _ _ z => z
/-! ### the top, run piece by piece: what stands in the heap behind each -/
namespace Hd
open PySem.W
set_option maxHeartbeats 0
abbrev pr : Program := PySem.Challenge.pw_spinboard_k73_images
abbrev kh := PyData.keyHash
def dPos (s : Stmt) : Pos := match s with
  | .FunctionDef _ _ _ _ _ _ _ _ _ p => p
  | _ => ⟨0, 0, 0, 0⟩
def life : Life := (Life.mk [] [] [] 0 [] [] false #[] [] 0 false false false 0 [2000, 10, 10] false 0 true [] [] 0 false)
def en : Env := { scope := pr.main.scope, locals := mainNs, globals := mainNs, cells := [], code := (.ref 13), frame := some 14 }
def dn (P : Params) (x : Str) (t : Nat) (v : Value) : DictEntry := DictEntry.mk (kh P x) (.str x t) v
def cob (n : Str) (t1 : Nat) (q : Str) (t2 t3 : Nat) (i1 i2 i3 i4 i5 : Int) (r1 : Addr) (b : Bool) (i6 : Int) (r2 : Addr) (v1 v2 v3 : Value) (i7 i8 : Int) (t4 : Nat) : Obj := Obj.mk (.type "code") none (Data.fields #[.str n t1, .str q t2, .str "/claim/cut.py" t3, .int i1 0, .int i2 0, .int i3 0, .int i4 0, .int i5 0, .ref r1, .bool b, .int i6 0, .ref r2, .none, v1, v2, v3, .int i7 0, .int i8 0, .str "/claim/cut.py" t4]) #[]
def fo1 (n q : Str) (s : Stmt) (k j : Nat) : Obj := Obj.mk .none none (Data.func (FuncData.mk n q (defArgs s) (FuncBody.stmts (defBody s)) (defScope s) k [] .none .none .none .none none .none .none j)) #[]
def fo2 (n q : Str) (s : Stmt) (k : Nat) (m : Str) (t : Nat) (c : Addr) (j : Nat) : Obj := Obj.mk (.type "function") none (Data.func (FuncData.mk n q (defArgs s) (FuncBody.stmts (defBody s)) (defScope s) k [] .none .none .none (.str m t) none (.ref c) .none j)) #[]
def sq0 (T : String) (n : Nat) : Obj := Obj.mk (.type T) none (Data.seq #[] n) #[]
def nf0 : Obj := Obj.mk .none none (Data.fields #[]) #[]
abbrev Pz := Params
def o11_0(P:Pz):=(sq0 "tuple" 0)
def o12_0(P:Pz):=(nf0)
def o13_0(P:Pz):=(cob "<module>" 182 "<module>" 183 184 1 0 0 0 0 11 false 181 12 .none .none .none 185 1 186)
def o14_0(P:Pz):=(Obj.mk (.type "frame") none Data.plain #[(some (.ref 13)), (some (.ref 3)), (some (.ref 3)), none, (some (.str "__main__" 164)), none, (some (.ref 0))])
def Ha (P : Params) : Heap := Heap.mk (Array.mk [(boot_o_0 P), (boot_o_1 P), (boot_o_2 P), (boot_o_3 P), (boot_o_4 P), (boot_o_5 P), (boot_o_6 P), (boot_o_7 P), (boot_o_8 P), (boot_o_9 P), (boot_o_10 P), (o11_0 P), (o12_0 P), (o13_0 P), (o14_0 P)]) life
def T0 (P : Params) : BT := (.node (boot_o_0 P) (.node (boot_o_1 P) (.node (boot_o_3 P) (.node (boot_o_7 P) .nil .nil) (.node (o11_0 P) .nil .nil)) (.node (boot_o_5 P) (.node (boot_o_9 P) .nil .nil) (.node (o13_0 P) .nil .nil))) (.node (boot_o_2 P) (.node (boot_o_4 P) (.node (boot_o_8 P) .nil .nil) (.node (o12_0 P) .nil .nil)) (.node (boot_o_6 P) (.node (boot_o_10 P) .nil .nil) (.node (o14_0 P) .nil .nil))))
def l0 : List Stmt := [top 0, top 1]
def l1 : List Stmt := [top 2]
def l2 : List Stmt := [top 3]
def l3 : List Stmt := [top 4]
def l4 : List Stmt := [top 5, top 6, top 7, top 8, top 9, top 10, top 11, top 12]
def l5 : List Stmt := [top 13, top 14, top 15, top 16, top 17, top 18, top 19, top 20, top 21, top 22, top 23, top 24]
def l6 : List Stmt := [top 25, top 26, top 27, top 28, top 29, top 30, top 31, top 32, top 33, top 34, top 35, top 36, top 37, top 38]
def l7 : List Stmt := [top 39, top 40, top 41, top 42, top 43, top 44, top 45, top 46, top 47, top 48, top 49, top 50, top 51, top 52]
def l8 : List Stmt := [top 53, top 54, top 55, top 56, top 57, top 58, top 59, top 60, top 61, top 62, top 63, top 64]
def bE : List Stmt := l0 ++ (l1 ++ (l2 ++ (l3 ++ (l4 ++ (l5 ++ (l6 ++ (l7 ++ (l8 ++ []))))))))
abbrev cE : Code := Code.body bE en
abbrev BB : List Frame := [topFrame (Pos.mk 0 0 0 0)]
theorem pre_ (w : World) (os : OsState) : topGo treeTable pr w 11 (some (.ref 6)) 12 (Shared.mk (boot_heap w.params) (Array.mk []) boot_drawn boot_toks os) (topStub pr) = some (Shared.mk (Ha w.params) (Array.mk []) (Drawn.mk 0 0 0 0) 187 os, Thread.mk (denote treeTable cE) cE (Pos.mk 0 0 0 0) BB) := by rw [PySem.W.Fast.te15667345088766844465, PySem.W.Fast.te11892475500146522536, PySem.W.Fast.te14364793385576792824]; kernel_rfl
theorem block_ (w : World) (os : OsState) : segRun treeTable pr w 11 (some (.ref 6)) 1 1 (Shared.mk (Ha w.params) (Array.mk []) (Drawn.mk 0 0 0 0) 187 os) (blockOf bE en cE (Pos.mk 0 0 0 0) BB) = some (Flow.next, (SharedT.mk (T0 w.params) 15 life (Array.mk []) (Drawn.mk 0 0 0 0) 187 os).abs, cE, (Pos.mk 0 0 0 0)) := by rw [PySem.W.Fast.te14374325043358763698, PySem.W.Fast.te14364793385576792824]; kernel_rfl
def o3_2(P:Pz):=(Obj.mk (.type "dict") none (Data.dict #[(dn P "__name__" 165 (.str "spinboard.errors" 187)), (dn P "__doc__" 166 .none), (dn P "__package__" 167 .none), (dn P "__loader__" 168 (.builtin "__main__.__loader__#opaque")), (dn P "__spec__" 169 .none), (dn P "__annotations__" 170 (.ref 6)), (dn P "__builtins__" 171 (.ref 4)), (dn P "__file__" 173 (.str "/claim/cut.py" 172)), (dn P "__cached__" 174 .none), (dn P "BoardError" 206 (.ref 24))] 10) #[])
def o12_2(P:Pz):=(Obj.mk .none none (Data.fields #[(.int 2 0), (.int 0 0), (.ref 20)]) #[])
def o15_2(P:Pz):=(Obj.mk (.type "tuple") none (Data.seq #[(.type "ValueError")] 0) #[])
def o16_2(P:Pz):=(Obj.mk (.type "builtin_function_or_method") none (Data.fields #[(.builtin "type.__prepare__"), (.type "type")]) #[])
def o17_2(P:Pz):=(Obj.mk (.type "dict") none (Data.dict #[(dn P "__module__" 196 (.str "spinboard.errors" 187)), (dn P "__qualname__" 198 (.str "BoardError" 197)), (dn P "__firstlineno__" 200 (.int 2 199)), (dn P "__static_attributes__" 201 (.ref 22))] 4) #[])
def o18_2(P:Pz):=(sq0 "tuple" 0)
def o19_2(P:Pz):=(nf0)
def o20_2(P:Pz):=(cob "BoardError" 191 "BoardError" 192 193 2 0 0 0 0 18 false 181 19 .none .none .none 194 2 195)
def o21_2(P:Pz):=(Obj.mk (.type "frame") none Data.plain #[(some (.ref 20)), (some (.ref 3)), (some (.ref 17)), none, (some (.str "spinboard.errors" 187)), none, (some (.ref 0))])
def o22_2(P:Pz):=(sq0 "tuple" 0)
def o23_2(P:Pz):=(Obj.mk (.type "dict") none (Data.dict #[(dn P "__module__" 196 (.str "spinboard.errors" 187)), (dn P "__firstlineno__" 200 (.int 2 199)), (dn P "__static_attributes__" 201 (.ref 22)), (dn P "__weakref__" 203 (.ref 25)), (dn P "__doc__" 204 .none)] 3) #[])
def o24_2(P:Pz):=(Obj.mk (.type "type") none (Data.cls (ClassData.mk "BoardError" [(.type "ValueError")] [(.ref 24), (.type "ValueError"), (.type "Exception"), (.type "BaseException"), (.type "object")] 23 "BoardError" true [] [] false none false)) #[(some (.ref 15)), none, (some (.str "BoardError" 189)), (some (.str "BoardError" 197)), (some (.builtin "ValueError.__new__")), (some (.bool true))])
def o25_2(P:Pz):=(Obj.mk (.type "getset_descriptor") none (Data.fields #[(.str "__weakref__" 202), (.ref 24), (.builtin "ExceptionGroup.__weakref__"), .none]) #[])
def o26_2(P:Pz):=(Obj.mk (.type "super") none (Data.fields #[(.ref 24), (.ref 24), (.ref 24)]) #[])
def o27_2(P:Pz):=(Obj.mk (.type "builtin_function_or_method") none (Data.fields #[(.builtin "object.__init_subclass__"), (.ref 24)]) #[])
def T1 (P : Params) : BT := ((((((((((((((((T0 P).ins 3 (o3_2 P)).ins 12 (o12_2 P)).ins 15 (o15_2 P)).ins 16 (o16_2 P)).ins 17 (o17_2 P)).ins 18 (o18_2 P)).ins 19 (o19_2 P)).ins 20 (o20_2 P)).ins 21 (o21_2 P)).ins 22 (o22_2 P)).ins 23 (o23_2 P)).ins 24 (o24_2 P)).ins 25 (o25_2 P)).ins 26 (o26_2 P)).ins 27 (o27_2 P))
theorem g0 (p : Program) (b : List Stmt) (w : World) (os : OsState) : segRunT treeTable p w 11 (some (.ref 6)) 1 196 (SharedT.mk (T0 w.params) 15 life (Array.mk []) (Drawn.mk 0 0 0 0) 187 os) (piecesOf l0 en (Code.body b en) (Pos.mk 0 0 0 0) BB) = some (Flow.next, (SharedT.mk (T1 w.params) 28 life (Array.mk []) (Drawn.mk 0 0 0 0) 207 os), Code.body b en, (Pos.mk 2 0 3 8)) := by rw [PySem.W.Fast.te10110043849684766642, PySem.W.Fast.te14364793385576792824]; kernel_rfl
def o3_3(P:Pz):=(Obj.mk (.type "dict") none (Data.dict #[(dn P "__name__" 165 (.str "spinboard.errors" 187)), (dn P "__doc__" 166 .none), (dn P "__package__" 167 .none), (dn P "__loader__" 168 (.builtin "__main__.__loader__#opaque")), (dn P "__spec__" 169 .none), (dn P "__annotations__" 170 (.ref 6)), (dn P "__builtins__" 171 (.ref 4)), (dn P "__file__" 173 (.str "/claim/cut.py" 172)), (dn P "__cached__" 174 .none), (dn P "BoardError" 206 (.ref 24)), (dn P "NoMove" 222 (.ref 37))] 11) #[])
def o12_3(P:Pz):=(Obj.mk .none none (Data.fields #[(.int 2 0), (.int 0 0), (.ref 20), (.int 4 0), (.int 0 0), (.ref 33)]) #[])
def o24_3(P:Pz):=(Obj.mk (.type "type") none (Data.cls (ClassData.mk "BoardError" [(.type "ValueError")] [(.ref 24), (.type "ValueError"), (.type "Exception"), (.type "BaseException"), (.type "object")] 23 "BoardError" true [] [(.ref 37)] false none false)) #[(some (.ref 15)), none, (some (.str "BoardError" 189)), (some (.str "BoardError" 197)), (some (.builtin "ValueError.__new__")), (some (.bool true))])
def o28_3(P:Pz):=(Obj.mk (.type "tuple") none (Data.seq #[(.ref 24)] 0) #[])
def o29_3(P:Pz):=(Obj.mk (.type "builtin_function_or_method") none (Data.fields #[(.builtin "type.__prepare__"), (.type "type")]) #[])
def o30_3(P:Pz):=(Obj.mk (.type "dict") none (Data.dict #[(dn P "__module__" 214 (.str "spinboard.errors" 187)), (dn P "__qualname__" 216 (.str "NoMove" 215)), (dn P "__firstlineno__" 218 (.int 4 217)), (dn P "__static_attributes__" 219 (.ref 35))] 4) #[])
def o31_3(P:Pz):=(sq0 "tuple" 0)
def o32_3(P:Pz):=(nf0)
def o33_3(P:Pz):=(cob "NoMove" 209 "NoMove" 210 211 4 0 0 0 0 31 false 181 32 .none .none .none 212 4 213)
def o34_3(P:Pz):=(Obj.mk (.type "frame") none Data.plain #[(some (.ref 33)), (some (.ref 3)), (some (.ref 30)), none, (some (.str "spinboard.errors" 187)), none, (some (.ref 0))])
def o35_3(P:Pz):=(sq0 "tuple" 0)
def o36_3(P:Pz):=(Obj.mk (.type "dict") none (Data.dict #[(dn P "__module__" 214 (.str "spinboard.errors" 187)), (dn P "__firstlineno__" 218 (.int 4 217)), (dn P "__static_attributes__" 219 (.ref 35)), (dn P "__doc__" 220 .none)] 2) #[])
def o37_3(P:Pz):=(Obj.mk (.type "type") none (Data.cls (ClassData.mk "NoMove" [(.ref 24)] [(.ref 37), (.ref 24), (.type "ValueError"), (.type "Exception"), (.type "BaseException"), (.type "object")] 36 "NoMove" true [] [] false none false)) #[(some (.ref 28)), none, (some (.str "NoMove" 207)), (some (.str "NoMove" 215)), (some (.builtin "ValueError.__new__")), (some (.bool true))])
def o38_3(P:Pz):=(Obj.mk (.type "super") none (Data.fields #[(.ref 37), (.ref 37), (.ref 37)]) #[])
def o39_3(P:Pz):=(Obj.mk (.type "builtin_function_or_method") none (Data.fields #[(.builtin "object.__init_subclass__"), (.ref 37)]) #[])
def T2 (P : Params) : BT := ((((((((((((((((T1 P).ins 3 (o3_3 P)).ins 12 (o12_3 P)).ins 24 (o24_3 P)).ins 28 (o28_3 P)).ins 29 (o29_3 P)).ins 30 (o30_3 P)).ins 31 (o31_3 P)).ins 32 (o32_3 P)).ins 33 (o33_3 P)).ins 34 (o34_3 P)).ins 35 (o35_3 P)).ins 36 (o36_3 P)).ins 37 (o37_3 P)).ins 38 (o38_3 P)).ins 39 (o39_3 P))
theorem g1 (p : Program) (b : List Stmt) (w : World) (os : OsState) : segRunT treeTable p w 11 (some (.ref 6)) 1 214 (SharedT.mk (T1 w.params) 28 life (Array.mk []) (Drawn.mk 0 0 0 0) 207 os) (piecesOf l1 en (Code.body b en) (Pos.mk 2 0 3 8) BB) = some (Flow.next, (SharedT.mk (T2 w.params) 40 life (Array.mk []) (Drawn.mk 0 0 0 0) 223 os), Code.body b en, (Pos.mk 4 0 5 8)) := by rw [PySem.W.Fast.te10110043849684766642, PySem.W.Fast.te14364793385576792824]; kernel_rfl
def o3_4(P:Pz):=(Obj.mk (.type "dict") none (Data.dict #[(dn P "__name__" 165 (.str "spinboard.errors" 187)), (dn P "__doc__" 166 .none), (dn P "__package__" 167 .none), (dn P "__loader__" 168 (.builtin "__main__.__loader__#opaque")), (dn P "__spec__" 169 .none), (dn P "__annotations__" 170 (.ref 6)), (dn P "__builtins__" 171 (.ref 4)), (dn P "__file__" 173 (.str "/claim/cut.py" 172)), (dn P "__cached__" 174 .none), (dn P "BoardError" 206 (.ref 24)), (dn P "NoMove" 222 (.ref 37)), (dn P "NoCell" 238 (.ref 49))] 12) #[])
def o12_4(P:Pz):=(Obj.mk .none none (Data.fields #[(.int 2 0), (.int 0 0), (.ref 20), (.int 4 0), (.int 0 0), (.ref 33), (.int 6 0), (.int 0 0), (.ref 45)]) #[])
def o24_4(P:Pz):=(Obj.mk (.type "type") none (Data.cls (ClassData.mk "BoardError" [(.type "ValueError")] [(.ref 24), (.type "ValueError"), (.type "Exception"), (.type "BaseException"), (.type "object")] 23 "BoardError" true [] [(.ref 37), (.ref 49)] false none false)) #[(some (.ref 15)), none, (some (.str "BoardError" 189)), (some (.str "BoardError" 197)), (some (.builtin "ValueError.__new__")), (some (.bool true))])
def o40_4(P:Pz):=(Obj.mk (.type "tuple") none (Data.seq #[(.ref 24)] 0) #[])
def o41_4(P:Pz):=(Obj.mk (.type "builtin_function_or_method") none (Data.fields #[(.builtin "type.__prepare__"), (.type "type")]) #[])
def o42_4(P:Pz):=(Obj.mk (.type "dict") none (Data.dict #[(dn P "__module__" 230 (.str "spinboard.errors" 187)), (dn P "__qualname__" 232 (.str "NoCell" 231)), (dn P "__firstlineno__" 234 (.int 6 233)), (dn P "__static_attributes__" 235 (.ref 47))] 4) #[])
def o43_4(P:Pz):=(sq0 "tuple" 0)
def o44_4(P:Pz):=(nf0)
def o45_4(P:Pz):=(cob "NoCell" 225 "NoCell" 226 227 6 0 0 0 0 43 false 181 44 .none .none .none 228 6 229)
def o46_4(P:Pz):=(Obj.mk (.type "frame") none Data.plain #[(some (.ref 45)), (some (.ref 3)), (some (.ref 42)), none, (some (.str "spinboard.errors" 187)), none, (some (.ref 0))])
def o47_4(P:Pz):=(sq0 "tuple" 0)
def o48_4(P:Pz):=(Obj.mk (.type "dict") none (Data.dict #[(dn P "__module__" 230 (.str "spinboard.errors" 187)), (dn P "__firstlineno__" 234 (.int 6 233)), (dn P "__static_attributes__" 235 (.ref 47)), (dn P "__doc__" 236 .none)] 2) #[])
def o49_4(P:Pz):=(Obj.mk (.type "type") none (Data.cls (ClassData.mk "NoCell" [(.ref 24)] [(.ref 49), (.ref 24), (.type "ValueError"), (.type "Exception"), (.type "BaseException"), (.type "object")] 48 "NoCell" true [] [] false none false)) #[(some (.ref 40)), none, (some (.str "NoCell" 223)), (some (.str "NoCell" 231)), (some (.builtin "ValueError.__new__")), (some (.bool true))])
def o50_4(P:Pz):=(Obj.mk (.type "super") none (Data.fields #[(.ref 49), (.ref 49), (.ref 49)]) #[])
def o51_4(P:Pz):=(Obj.mk (.type "builtin_function_or_method") none (Data.fields #[(.builtin "object.__init_subclass__"), (.ref 49)]) #[])
def T3 (P : Params) : BT := ((((((((((((((((T2 P).ins 3 (o3_4 P)).ins 12 (o12_4 P)).ins 24 (o24_4 P)).ins 40 (o40_4 P)).ins 41 (o41_4 P)).ins 42 (o42_4 P)).ins 43 (o43_4 P)).ins 44 (o44_4 P)).ins 45 (o45_4 P)).ins 46 (o46_4 P)).ins 47 (o47_4 P)).ins 48 (o48_4 P)).ins 49 (o49_4 P)).ins 50 (o50_4 P)).ins 51 (o51_4 P))
theorem g2 (p : Program) (b : List Stmt) (w : World) (os : OsState) : segRunT treeTable p w 11 (some (.ref 6)) 1 214 (SharedT.mk (T2 w.params) 40 life (Array.mk []) (Drawn.mk 0 0 0 0) 223 os) (piecesOf l2 en (Code.body b en) (Pos.mk 4 0 5 8) BB) = some (Flow.next, (SharedT.mk (T3 w.params) 52 life (Array.mk []) (Drawn.mk 0 0 0 0) 239 os), Code.body b en, (Pos.mk 6 0 7 8)) := by rw [PySem.W.Fast.te10110043849684766642, PySem.W.Fast.te14364793385576792824]; kernel_rfl
def o3_5(P:Pz):=Obj.mk (.type "dict") none (Data.dict #[(dn P "__name__" 165 (.str "spinboard.errors" 187)), (dn P "__doc__" 166 .none), (dn P "__package__" 167 .none), (dn P "__loader__" 168 (.builtin "__main__.__loader__#opaque")), (dn P "__spec__" 169 .none), (dn P "__annotations__" 170 (.ref 6)), (dn P "__builtins__" 171 (.ref 4)), (dn P "__file__" 173 (.str "/claim/cut.py" 172)), (dn P "__cached__" 174 .none), (dn P "BoardError" 206 (.ref 24)), (dn P "NoMove" 222 (.ref 37)), (dn P "NoCell" 238 (.ref 49)), (dn P "NoTable" 254 (.ref 61))] 13) #[]
def o12_5(P:Pz):=(Obj.mk .none none (Data.fields #[(.int 2 0), (.int 0 0), (.ref 20), (.int 4 0), (.int 0 0), (.ref 33), (.int 6 0), (.int 0 0), (.ref 45), (.int 8 0), (.int 0 0), (.ref 57)]) #[])
def o24_5(P:Pz):=(Obj.mk (.type "type") none (Data.cls (ClassData.mk "BoardError" [(.type "ValueError")] [(.ref 24), (.type "ValueError"), (.type "Exception"), (.type "BaseException"), (.type "object")] 23 "BoardError" true [] [(.ref 37), (.ref 49), (.ref 61)] false none false)) #[(some (.ref 15)), none, (some (.str "BoardError" 189)), (some (.str "BoardError" 197)), (some (.builtin "ValueError.__new__")), (some (.bool true))])
def o52_5(P:Pz):=(Obj.mk (.type "tuple") none (Data.seq #[(.ref 24)] 0) #[])
def o53_5(P:Pz):=(Obj.mk (.type "builtin_function_or_method") none (Data.fields #[(.builtin "type.__prepare__"), (.type "type")]) #[])
def o54_5(P:Pz):=(Obj.mk (.type "dict") none (Data.dict #[(dn P "__module__" 246 (.str "spinboard.errors" 187)), (dn P "__qualname__" 248 (.str "NoTable" 247)), (dn P "__firstlineno__" 250 (.int 8 249)), (dn P "__static_attributes__" 251 (.ref 59))] 4) #[])
def o55_5(P:Pz):=(sq0 "tuple" 0)
def o56_5(P:Pz):=(nf0)
def o57_5(P:Pz):=(cob "NoTable" 241 "NoTable" 242 243 8 0 0 0 0 55 false 181 56 .none .none .none 244 8 245)
def o58_5(P:Pz):=(Obj.mk (.type "frame") none Data.plain #[(some (.ref 57)), (some (.ref 3)), (some (.ref 54)), none, (some (.str "spinboard.errors" 187)), none, (some (.ref 0))])
def o59_5(P:Pz):=(sq0 "tuple" 0)
def o60_5(P:Pz):=(Obj.mk (.type "dict") none (Data.dict #[(dn P "__module__" 246 (.str "spinboard.errors" 187)), (dn P "__firstlineno__" 250 (.int 8 249)), (dn P "__static_attributes__" 251 (.ref 59)), (dn P "__doc__" 252 .none)] 2) #[])
def o61_5(P:Pz):=(Obj.mk (.type "type") none (Data.cls (ClassData.mk "NoTable" [(.ref 24)] [(.ref 61), (.ref 24), (.type "ValueError"), (.type "Exception"), (.type "BaseException"), (.type "object")] 60 "NoTable" true [] [] false none false)) #[(some (.ref 52)), none, (some (.str "NoTable" 239)), (some (.str "NoTable" 247)), (some (.builtin "ValueError.__new__")), (some (.bool true))])
def o62_5(P:Pz):=(Obj.mk (.type "super") none (Data.fields #[(.ref 61), (.ref 61), (.ref 61)]) #[])
def o63_5(P:Pz):=(Obj.mk (.type "builtin_function_or_method") none (Data.fields #[(.builtin "object.__init_subclass__"), (.ref 61)]) #[])
def T4 (P : Params) : BT := ((((((((((((((((T3 P).ins 3 (o3_5 P)).ins 12 (o12_5 P)).ins 24 (o24_5 P)).ins 52 (o52_5 P)).ins 53 (o53_5 P)).ins 54 (o54_5 P)).ins 55 (o55_5 P)).ins 56 (o56_5 P)).ins 57 (o57_5 P)).ins 58 (o58_5 P)).ins 59 (o59_5 P)).ins 60 (o60_5 P)).ins 61 (o61_5 P)).ins 62 (o62_5 P)).ins 63 (o63_5 P))
theorem g3 (p : Program) (b : List Stmt) (w : World) (os : OsState) : segRunT treeTable p w 11 (some (.ref 6)) 1 214 (SharedT.mk (T3 w.params) 52 life (Array.mk []) (Drawn.mk 0 0 0 0) 239 os) (piecesOf l3 en (Code.body b en) (Pos.mk 6 0 7 8) BB) = some (Flow.next, (SharedT.mk (T4 w.params) 64 life (Array.mk []) (Drawn.mk 0 0 0 0) 255 os), Code.body b en, (Pos.mk 8 0 9 8)) := by rw [PySem.W.Fast.te10110043849684766642, PySem.W.Fast.te14364793385576792824]; kernel_rfl
def o3_6(P:Pz):=Obj.mk (.type "dict") none (Data.dict #[(dn P "__name__" 165 (.str "spinboard.amounts" 307)), (dn P "__doc__" 166 .none), (dn P "__package__" 167 .none), (dn P "__loader__" 168 (.builtin "__main__.__loader__#opaque")), (dn P "__spec__" 169 .none), (dn P "__annotations__" 170 (.ref 6)), (dn P "__builtins__" 171 (.ref 4)), (dn P "__file__" 173 (.str "/claim/cut.py" 172)), (dn P "__cached__" 174 .none), (dn P "BoardError" 206 (.ref 24)), (dn P "NoMove" 222 (.ref 37)), (dn P "NoCell" 238 (.ref 49)), (dn P "NoTable" 254 (.ref 61)), (dn P "NotBorne" 279 (.ref 80)), (dn P "is_whole" 288 (.ref 89)), (dn P "ones" 299 (.ref 96)), (dn P "turned_about" 306 (.ref 103)), (dn P "halved_out" 322 (.ref 110))] 18) #[]
def o12_6(P:Pz):=(Obj.mk .none none (Data.fields #[(.int 2 0), (.int 0 0), (.ref 20), (.int 4 0), (.int 0 0), (.ref 33), (.int 6 0), (.int 0 0), (.ref 45), (.int 8 0), (.int 0 0), (.ref 57), (.int 10 0), (.int 0 0), (.ref 69), (.int 15 0), (.int 0 0), (.ref 88), (.int 18 0), (.int 0 0), (.ref 95), (.int 25 0), (.int 0 0), (.ref 102), (.int 28 0), (.int 0 0), (.ref 109)]) #[])
def o24_6(P:Pz):=(Obj.mk (.type "type") none (Data.cls (ClassData.mk "BoardError" [(.type "ValueError")] [(.ref 24), (.type "ValueError"), (.type "Exception"), (.type "BaseException"), (.type "object")] 23 "BoardError" true [] [(.ref 37), (.ref 49), (.ref 61), (.ref 80)] false none false)) #[(some (.ref 15)), none, (some (.str "BoardError" 189)), (some (.str "BoardError" 197)), (some (.builtin "ValueError.__new__")), (some (.bool true))])
def o64_6(P:Pz):=(Obj.mk (.type "tuple") none (Data.seq #[(.ref 24)] 0) #[])
def o65_6(P:Pz):=(Obj.mk (.type "builtin_function_or_method") none (Data.fields #[(.builtin "type.__prepare__"), (.type "type")]) #[])
def o66_6(P:Pz):=(Obj.mk (.type "dict") none (Data.dict #[(dn P "__module__" 262 (.str "spinboard.errors" 187)), (dn P "__qualname__" 264 (.str "NotBorne" 263)), (dn P "__firstlineno__" 266 (.int 10 265)), (dn P "__init__" 274 (.ref 77)), (dn P "__static_attributes__" 276 (.ref 78))] 5) #[])
def o67_6(P:Pz):=(sq0 "tuple" 0)
def o68_6(P:Pz):=(Obj.mk .none none (Data.fields #[(.int 12 0), (.int 4 0), (.ref 76)]) #[])
def o69_6(P:Pz):=(cob "NotBorne" 257 "NotBorne" 258 259 10 0 0 0 0 67 false 181 68 .none .none .none 260 10 261)
def o70_6(P:Pz):=(Obj.mk (.type "frame") none Data.plain #[(some (.ref 69)), (some (.ref 3)), (some (.ref 66)), none, (some (.str "spinboard.errors" 187)), none, (some (.ref 0))])
def o71_6(P:Pz):=(sq0 "tuple" 0)
def o72_6(P:Pz):=(nf0)
def o73_6(P:Pz):=(Obj.mk (.type "tuple") none (Data.seq #[(.str "self" 270), (.str "place" 271)] 0) #[])
def o74_6(P:Pz):=(sq0 "tuple" 0)
def o75_6(P:Pz):=(fo1 "__init__" "NotBorne.__init__" (inClass (top 5) 0) 0 0)
def o76_6(P:Pz):=(cob "__init__" 267 "NotBorne.__init__" 268 269 12 2 0 0 3 71 true 181 72 (.ref 73) (.ref 74) (.ref 75) 272 12 273)
def o77_6(P:Pz):=(fo2 "__init__" "NotBorne.__init__" (inClass (top 5) 0) 3 "spinboard.errors" 187 76 0)
def o78_6(P:Pz):=(Obj.mk (.type "tuple") none (Data.seq #[(.str "place" 275)] 0) #[])
def o79_6(P:Pz):=(Obj.mk (.type "dict") none (Data.dict #[(dn P "__module__" 262 (.str "spinboard.errors" 187)), (dn P "__firstlineno__" 266 (.int 10 265)), (dn P "__init__" 274 (.ref 77)), (dn P "__static_attributes__" 276 (.ref 78)), (dn P "__doc__" 277 .none)] 2) #[])
def o80_6(P:Pz):=(Obj.mk (.type "type") none (Data.cls (ClassData.mk "NotBorne" [(.ref 24)] [(.ref 80), (.ref 24), (.type "ValueError"), (.type "Exception"), (.type "BaseException"), (.type "object")] 79 "NotBorne" true [] [] false none false)) #[(some (.ref 64)), none, (some (.str "NotBorne" 255)), (some (.str "NotBorne" 263)), (some (.builtin "ValueError.__new__")), (some (.bool true))])
def o81_6(P:Pz):=(Obj.mk (.type "super") none (Data.fields #[(.ref 80), (.ref 80), (.ref 80)]) #[])
def o82_6(P:Pz):=(Obj.mk (.type "builtin_function_or_method") none (Data.fields #[(.builtin "object.__init_subclass__"), (.ref 80)]) #[])
def o83_6(P:Pz):=(sq0 "tuple" 0)
def o84_6(P:Pz):=(nf0)
def o85_6(P:Pz):=(Obj.mk (.type "tuple") none (Data.seq #[(.str "thing" 285)] 0) #[])
def o86_6(P:Pz):=(sq0 "tuple" 0)
def o87_6(P:Pz):=(fo1 "is_whole" "is_whole" (top 7) 0 0)
def o88_6(P:Pz):=(cob "is_whole" 282 "is_whole" 283 284 15 1 0 0 3 83 true 181 84 (.ref 85) (.ref 86) (.ref 87) 286 15 287)
def o89_6(P:Pz):=(fo2 "is_whole" "is_whole" (top 7) 3 "spinboard.shares" 280 88 0)
def o90_6(P:Pz):=(sq0 "tuple" 0)
def o91_6(P:Pz):=(nf0)
def o92_6(P:Pz):=(Obj.mk (.type "tuple") none (Data.seq #[(.str "number" 294), (.str "many" 295), (.str "rest" 296)] 0) #[])
def o93_6(P:Pz):=(sq0 "tuple" 0)
def o94_6(P:Pz):=(fo1 "ones" "ones" (top 9) 0 0)
def o95_6(P:Pz):=(cob "ones" 291 "ones" 292 293 18 1 0 0 3 90 true 181 91 (.ref 92) (.ref 93) (.ref 94) 297 18 298)
def o96_6(P:Pz):=(fo2 "ones" "ones" (top 9) 3 "spinboard.marks" 289 95 0)
def o97_6(P:Pz):=(sq0 "tuple" 0)
def o98_6(P:Pz):=(nf0)
def o99_6(P:Pz):=(Obj.mk (.type "tuple") none (Data.seq #[(.str "mark" 303)] 0) #[])
def o100_6(P:Pz):=(sq0 "tuple" 0)
def o101_6(P:Pz):=(fo1 "turned_about" "turned_about" (top 10) 0 0)
def o102_6(P:Pz):=(cob "turned_about" 300 "turned_about" 301 302 25 1 0 0 3 97 true 181 98 (.ref 99) (.ref 100) (.ref 101) 304 25 305)
def o103_6(P:Pz):=(fo2 "turned_about" "turned_about" (top 10) 3 "spinboard.marks" 289 102 0)
def o104_6(P:Pz):=(sq0 "tuple" 0)
def o105_6(P:Pz):=(nf0)
def o106_6(P:Pz):=(Obj.mk (.type "tuple") none (Data.seq #[(.str "a" 312), (.str "b" 313), (.str "c" 314), (.str "d" 315), (.str "h" 316), (.str "places" 317), (.str "lowest" 318), (.str "less" 319)] 0) #[])
def o107_6(P:Pz):=(sq0 "tuple" 0)
def o108_6(P:Pz):=(fo1 "halved_out" "halved_out" (top 12) 0 0)
def o109_6(P:Pz):=(cob "halved_out" 309 "halved_out" 310 311 28 5 0 0 3 104 true 181 105 (.ref 106) (.ref 107) (.ref 108) 320 28 321)
def o110_6(P:Pz):=(fo2 "halved_out" "halved_out" (top 12) 3 "spinboard.amounts" 307 109 0)
def T5 (P : Params) : BT := (((((((((((((((((((((((((((((((((((((((((((((((((((T4 P).ins 3 (o3_6 P)).ins 12 (o12_6 P)).ins 24 (o24_6 P)).ins 64 (o64_6 P)).ins 65 (o65_6 P)).ins 66 (o66_6 P)).ins 67 (o67_6 P)).ins 68 (o68_6 P)).ins 69 (o69_6 P)).ins 70 (o70_6 P)).ins 71 (o71_6 P)).ins 72 (o72_6 P)).ins 73 (o73_6 P)).ins 74 (o74_6 P)).ins 75 (o75_6 P)).ins 76 (o76_6 P)).ins 77 (o77_6 P)).ins 78 (o78_6 P)).ins 79 (o79_6 P)).ins 80 (o80_6 P)).ins 81 (o81_6 P)).ins 82 (o82_6 P)).ins 83 (o83_6 P)).ins 84 (o84_6 P)).ins 85 (o85_6 P)).ins 86 (o86_6 P)).ins 87 (o87_6 P)).ins 88 (o88_6 P)).ins 89 (o89_6 P)).ins 90 (o90_6 P)).ins 91 (o91_6 P)).ins 92 (o92_6 P)).ins 93 (o93_6 P)).ins 94 (o94_6 P)).ins 95 (o95_6 P)).ins 96 (o96_6 P)).ins 97 (o97_6 P)).ins 98 (o98_6 P)).ins 99 (o99_6 P)).ins 100 (o100_6 P)).ins 101 (o101_6 P)).ins 102 (o102_6 P)).ins 103 (o103_6 P)).ins 104 (o104_6 P)).ins 105 (o105_6 P)).ins 106 (o106_6 P)).ins 107 (o107_6 P)).ins 108 (o108_6 P)).ins 109 (o109_6 P)).ins 110 (o110_6 P))
theorem g4 (p : Program) (b : List Stmt) (w : World) (os : OsState) : segRunT treeTable p w 11 (some (.ref 6)) 1 398 (SharedT.mk (T4 w.params) 64 life (Array.mk []) (Drawn.mk 0 0 0 0) 255 os) (piecesOf l4 en (Code.body b en) (Pos.mk 8 0 9 8) BB) = some (Flow.next, (SharedT.mk (T5 w.params) 111 life (Array.mk []) (Drawn.mk 0 0 0 0) 323 os), Code.body b en, (Pos.mk 28 0 34 65)) := by rw [PySem.W.Fast.te10110043849684766642, PySem.W.Fast.te14364793385576792824]; kernel_rfl
def o3_7(P:Pz):=Obj.mk (.type "dict") none (Data.dict #[(dn P "__name__" 165 (.str "spinboard.moves" 385)), (dn P "__doc__" 166 .none), (dn P "__package__" 167 .none), (dn P "__loader__" 168 (.builtin "__main__.__loader__#opaque")), (dn P "__spec__" 169 .none), (dn P "__annotations__" 170 (.ref 6)), (dn P "__builtins__" 171 (.ref 4)), (dn P "__file__" 173 (.str "/claim/cut.py" 172)), (dn P "__cached__" 174 .none), (dn P "BoardError" 206 (.ref 24)), (dn P "NoMove" 222 (.ref 37)), (dn P "NoCell" 238 (.ref 49)), (dn P "NoTable" 254 (.ref 61)), (dn P "NotBorne" 279 (.ref 80)), (dn P "is_whole" 288 (.ref 89)), (dn P "ones" 299 (.ref 96)), (dn P "turned_about" 306 (.ref 103)), (dn P "halved_out" 322 (.ref 110)), (dn P "plus" 328 (.ref 115)), (dn P "minus" 336 (.ref 122)), (dn P "spun" 346 (.ref 129)), (dn P "spun_once" 353 (.ref 136)), (dn P "rooted" 360 (.ref 143)), (dn P "cells_of" 369 (.ref 150)), (dn P "laid_on" 375 (.ref 155)), (dn P "spun_by_mark" 384 (.ref 162)), (dn P "NUMBERS_BEHIND" 408 (.ref 163)), (dn P "check_move" 414 (.ref 168))] 28) #[]
def o12_7(P:Pz):=(Obj.mk .none none (Data.fields #[(.int 2 0), (.int 0 0), (.ref 20), (.int 4 0), (.int 0 0), (.ref 33), (.int 6 0), (.int 0 0), (.ref 45), (.int 8 0), (.int 0 0), (.ref 57), (.int 10 0), (.int 0 0), (.ref 69), (.int 15 0), (.int 0 0), (.ref 88), (.int 18 0), (.int 0 0), (.ref 95), (.int 25 0), (.int 0 0), (.ref 102), (.int 28 0), (.int 0 0), (.ref 109), (.int 35 0), (.int 0 0), (.ref 114), (.int 41 0), (.int 0 0), (.ref 121), (.int 43 0), (.int 0 0), (.ref 128), (.int 48 0), (.int 0 0), (.ref 135), (.int 50 0), (.int 0 0), (.ref 142), (.int 53 0), (.int 0 0), (.ref 149), (.int 55 0), (.int 0 0), (.ref 154), (.int 57 0), (.int 0 0), (.ref 161), (.int 61 0), (.int 0 0), (.ref 167)]) #[])
def o111_7(P:Pz):=(sq0 "tuple" 0)
def o112_7(P:Pz):=(nf0)
def o113_7(P:Pz):=(fo1 "plus" "plus" (top 13) 0 0)
def o114_7(P:Pz):=(cob "plus" 323 "plus" 324 325 35 2 0 0 3 111 true 181 112 .none .none (.ref 113) 326 35 327)
def o115_7(P:Pz):=(fo2 "plus" "plus" (top 13) 3 "spinboard.amounts" 307 114 0)
def o116_7(P:Pz):=(sq0 "tuple" 0)
def o117_7(P:Pz):=(nf0)
def o118_7(P:Pz):=(Obj.mk (.type "tuple") none (Data.seq #[(.str "one" 332), (.str "other" 333)] 0) #[])
def o119_7(P:Pz):=(sq0 "tuple" 0)
def o120_7(P:Pz):=(fo1 "minus" "minus" (top 14) 0 0)
def o121_7(P:Pz):=(cob "minus" 329 "minus" 330 331 41 2 0 0 3 116 true 181 117 (.ref 118) (.ref 119) (.ref 120) 334 41 335)
def o122_7(P:Pz):=(fo2 "minus" "minus" (top 14) 3 "spinboard.amounts" 307 121 0)
def o123_7(P:Pz):=(sq0 "tuple" 0)
def o124_7(P:Pz):=(nf0)
def o125_7(P:Pz):=(Obj.mk (.type "tuple") none (Data.seq #[(.str "one" 340), (.str "k" 341), (.str "turning" 342), (.str "step" 343)] 0) #[])
def o126_7(P:Pz):=(sq0 "tuple" 0)
def o127_7(P:Pz):=(fo1 "spun" "spun" (top 15) 0 0)
def o128_7(P:Pz):=(cob "spun" 337 "spun" 338 339 43 2 0 0 3 123 true 181 124 (.ref 125) (.ref 126) (.ref 127) 344 43 345)
def o129_7(P:Pz):=(fo2 "spun" "spun" (top 15) 3 "spinboard.amounts" 307 128 0)
def o130_7(P:Pz):=(sq0 "tuple" 0)
def o131_7(P:Pz):=(nf0)
def o132_7(P:Pz):=(Obj.mk (.type "tuple") none (Data.seq #[(.str "one" 350)] 0) #[])
def o133_7(P:Pz):=(sq0 "tuple" 0)
def o134_7(P:Pz):=(fo1 "spun_once" "spun_once" (top 16) 0 0)
def o135_7(P:Pz):=(cob "spun_once" 347 "spun_once" 348 349 48 1 0 0 3 130 true 181 131 (.ref 132) (.ref 133) (.ref 134) 351 48 352)
def o136_7(P:Pz):=(fo2 "spun_once" "spun_once" (top 16) 3 "spinboard.amounts" 307 135 0)
def o137_7(P:Pz):=(sq0 "tuple" 0)
def o138_7(P:Pz):=(nf0)
def o139_7(P:Pz):=(Obj.mk (.type "tuple") none (Data.seq #[(.str "one" 357)] 0) #[])
def o140_7(P:Pz):=(sq0 "tuple" 0)
def o141_7(P:Pz):=(fo1 "rooted" "rooted" (top 17) 0 0)
def o142_7(P:Pz):=(cob "rooted" 354 "rooted" 355 356 50 1 0 0 3 137 true 181 138 (.ref 139) (.ref 140) (.ref 141) 358 50 359)
def o143_7(P:Pz):=(fo2 "rooted" "rooted" (top 17) 3 "spinboard.amounts" 307 142 0)
def o144_7(P:Pz):=(sq0 "tuple" 0)
def o145_7(P:Pz):=(nf0)
def o146_7(P:Pz):=(Obj.mk (.type "tuple") none (Data.seq #[(.str "board" 366)] 0) #[])
def o147_7(P:Pz):=(sq0 "tuple" 0)
def o148_7(P:Pz):=(fo1 "cells_of" "cells_of" (top 19) 0 0)
def o149_7(P:Pz):=(cob "cells_of" 363 "cells_of" 364 365 53 1 0 0 3 144 true 181 145 (.ref 146) (.ref 147) (.ref 148) 367 53 368)
def o150_7(P:Pz):=(fo2 "cells_of" "cells_of" (top 19) 3 "spinboard.boards" 361 149 0)
def o151_7(P:Pz):=(sq0 "tuple" 0)
def o152_7(P:Pz):=(nf0)
def o153_7(P:Pz):=(fo1 "laid_on" "laid_on" (top 20) 0 0)
def o154_7(P:Pz):=(cob "laid_on" 370 "laid_on" 371 372 55 2 0 0 3 151 true 181 152 .none .none (.ref 153) 373 55 374)
def o155_7(P:Pz):=(fo2 "laid_on" "laid_on" (top 20) 3 "spinboard.boards" 361 154 0)
def o156_7(P:Pz):=(sq0 "tuple" 0)
def o157_7(P:Pz):=(nf0)
def o158_7(P:Pz):=(Obj.mk (.type "tuple") none (Data.seq #[(.str "board" 379), (.str "word" 380), (.str "mark" 381)] 0) #[])
def o159_7(P:Pz):=(sq0 "tuple" 0)
def o160_7(P:Pz):=(fo1 "spun_by_mark" "spun_by_mark" (top 21) 0 0)
def o161_7(P:Pz):=(cob "spun_by_mark" 376 "spun_by_mark" 377 378 57 3 0 0 3 156 true 181 157 (.ref 158) (.ref 159) (.ref 160) 382 57 383)
def o162_7(P:Pz):=(fo2 "spun_by_mark" "spun_by_mark" (top 21) 3 "spinboard.boards" 361 161 0)
def o163_7(P:Pz):=(Obj.mk (.type "dict") none (Data.dict #[(dn P "flip" 387 (.int 1 388)), (dn P "mix" 389 (.int 1 390)), (dn P "turn" 391 (.int 2 392)), (dn P "if" 393 (.int 2 394)), (dn P "pair" 395 (.int 2 396)), (dn P "swap" 397 (.int 2 398)), (dn P "cross" 399 (.int 3 400))] 7) #[])
def o164_7(P:Pz):=(sq0 "tuple" 0)
def o165_7(P:Pz):=(nf0)
def o166_7(P:Pz):=(fo1 "check_move" "check_move" (top 24) 0 0)
def o167_7(P:Pz):=(cob "check_move" 409 "check_move" 410 411 61 2 0 0 3 164 true 181 165 .none .none (.ref 166) 412 61 413)
def o168_7(P:Pz):=(fo2 "check_move" "check_move" (top 24) 3 "spinboard.moves" 385 167 0)
def T6 (P : Params) : BT := (((((((((((((((((((((((((((((((((((((((((((((((((((((((((((((T5 P).ins 3 (o3_7 P)).ins 12 (o12_7 P)).ins 111 (o111_7 P)).ins 112 (o112_7 P)).ins 113 (o113_7 P)).ins 114 (o114_7 P)).ins 115 (o115_7 P)).ins 116 (o116_7 P)).ins 117 (o117_7 P)).ins 118 (o118_7 P)).ins 119 (o119_7 P)).ins 120 (o120_7 P)).ins 121 (o121_7 P)).ins 122 (o122_7 P)).ins 123 (o123_7 P)).ins 124 (o124_7 P)).ins 125 (o125_7 P)).ins 126 (o126_7 P)).ins 127 (o127_7 P)).ins 128 (o128_7 P)).ins 129 (o129_7 P)).ins 130 (o130_7 P)).ins 131 (o131_7 P)).ins 132 (o132_7 P)).ins 133 (o133_7 P)).ins 134 (o134_7 P)).ins 135 (o135_7 P)).ins 136 (o136_7 P)).ins 137 (o137_7 P)).ins 138 (o138_7 P)).ins 139 (o139_7 P)).ins 140 (o140_7 P)).ins 141 (o141_7 P)).ins 142 (o142_7 P)).ins 143 (o143_7 P)).ins 144 (o144_7 P)).ins 145 (o145_7 P)).ins 146 (o146_7 P)).ins 147 (o147_7 P)).ins 148 (o148_7 P)).ins 149 (o149_7 P)).ins 150 (o150_7 P)).ins 151 (o151_7 P)).ins 152 (o152_7 P)).ins 153 (o153_7 P)).ins 154 (o154_7 P)).ins 155 (o155_7 P)).ins 156 (o156_7 P)).ins 157 (o157_7 P)).ins 158 (o158_7 P)).ins 159 (o159_7 P)).ins 160 (o160_7 P)).ins 161 (o161_7 P)).ins 162 (o162_7 P)).ins 163 (o163_7 P)).ins 164 (o164_7 P)).ins 165 (o165_7 P)).ins 166 (o166_7 P)).ins 167 (o167_7 P)).ins 168 (o168_7 P))
theorem g5 (p : Program) (b : List Stmt) (w : World) (os : OsState) : segRunT treeTable p w 11 (some (.ref 6)) 1 392 (SharedT.mk (T5 w.params) 111 life (Array.mk []) (Drawn.mk 0 0 0 0) 323 os) (piecesOf l5 en (Code.body b en) (Pos.mk 28 0 34 65) BB) = some (Flow.next, (SharedT.mk (T6 w.params) 169 life (Array.mk []) (Drawn.mk 0 0 0 0) 415 os), Code.body b en, (Pos.mk 61 0 69 15)) :=
  (byRow2 "special-get-raises" (P := fun w => (fun w : World => segRunT treeTable p w 11 (some (.ref 6)) 1 392 (SharedT.mk (T5 w.params) 111 life (Array.mk []) (Drawn.mk 0 0 0 0) 323 os) (piecesOf l5 en (Code.body b en) (Pos.mk 28 0 34 65) BB) = some (Flow.next, (SharedT.mk (T6 w.params) 169 life (Array.mk []) (Drawn.mk 0 0 0 0) 415 os), Code.body b en, (Pos.mk 61 0 69 15))) w) (fun w => by show (fun w : World => segRunT treeTable p w 11 (some (.ref 6)) 1 392 (SharedT.mk (T5 w.params) 111 life (Array.mk []) (Drawn.mk 0 0 0 0) 323 os) (piecesOf l5 en (Code.body b en) (Pos.mk 28 0 34 65) BB) = some (Flow.next, (SharedT.mk (T6 w.params) 169 life (Array.mk []) (Drawn.mk 0 0 0 0) 415 os), Code.body b en, (Pos.mk 61 0 69 15))) (World.withFollow w "special-get-raises" false); rw [PySem.W.Fast.te10110043849684766642, PySem.W.Fast.te14364793385576792824]; kernel_rfl) (fun w => by show (fun w : World => segRunT treeTable p w 11 (some (.ref 6)) 1 392 (SharedT.mk (T5 w.params) 111 life (Array.mk []) (Drawn.mk 0 0 0 0) 323 os) (piecesOf l5 en (Code.body b en) (Pos.mk 28 0 34 65) BB) = some (Flow.next, (SharedT.mk (T6 w.params) 169 life (Array.mk []) (Drawn.mk 0 0 0 0) 415 os), Code.body b en, (Pos.mk 61 0 69 15))) (World.withFollow w "special-get-raises" true); rw [PySem.W.Fast.te10110043849684766642, PySem.W.Fast.te14364793385576792824]; kernel_rfl)) w
def o3_8(P:Pz):=Obj.mk (.type "dict") none (Data.dict #[(dn P "__name__" 165 (.str "spinboard.tableturns" 471)), (dn P "__doc__" 166 .none), (dn P "__package__" 167 .none), (dn P "__loader__" 168 (.builtin "__main__.__loader__#opaque")), (dn P "__spec__" 169 .none), (dn P "__annotations__" 170 (.ref 6)), (dn P "__builtins__" 171 (.ref 4)), (dn P "__file__" 173 (.str "/claim/cut.py" 172)), (dn P "__cached__" 174 .none), (dn P "BoardError" 206 (.ref 24)), (dn P "NoMove" 222 (.ref 37)), (dn P "NoCell" 238 (.ref 49)), (dn P "NoTable" 254 (.ref 61)), (dn P "NotBorne" 279 (.ref 80)), (dn P "is_whole" 288 (.ref 89)), (dn P "ones" 299 (.ref 96)), (dn P "turned_about" 306 (.ref 103)), (dn P "halved_out" 322 (.ref 110)), (dn P "plus" 328 (.ref 115)), (dn P "minus" 336 (.ref 122)), (dn P "spun" 346 (.ref 129)), (dn P "spun_once" 353 (.ref 136)), (dn P "rooted" 360 (.ref 143)), (dn P "cells_of" 369 (.ref 150)), (dn P "laid_on" 375 (.ref 155)), (dn P "spun_by_mark" 384 (.ref 162)), (dn P "NUMBERS_BEHIND" 408 (.ref 163)), (dn P "check_move" 414 (.ref 168)), (dn P "has_move_form" 420 (.ref 173)), (dn P "named_cells" 427 (.ref 180)), (dn P "turned" 433 (.ref 185)), (dn P "mixed" 439 (.ref 190)), (dn P "mixed_at" 448 (.ref 197)), (dn P "spun_where" 454 (.ref 202)), (dn P "word_behind" 460 (.ref 207)), (dn P "exchanged" 470 (.ref 214)), (dn P "borne" 481 (.ref 221)), (dn P "is_borne" 488 (.ref 228)), (dn P "is_odd_turn" 495 (.ref 235)), (dn P "moved_rows" 501 (.ref 240)), (dn P "check_borne" 509 (.ref 247))] 41) #[]
def o12_8(P:Pz):=(Obj.mk .none none (Data.fields #[(.int 2 0), (.int 0 0), (.ref 20), (.int 4 0), (.int 0 0), (.ref 33), (.int 6 0), (.int 0 0), (.ref 45), (.int 8 0), (.int 0 0), (.ref 57), (.int 10 0), (.int 0 0), (.ref 69), (.int 15 0), (.int 0 0), (.ref 88), (.int 18 0), (.int 0 0), (.ref 95), (.int 25 0), (.int 0 0), (.ref 102), (.int 28 0), (.int 0 0), (.ref 109), (.int 35 0), (.int 0 0), (.ref 114), (.int 41 0), (.int 0 0), (.ref 121), (.int 43 0), (.int 0 0), (.ref 128), (.int 48 0), (.int 0 0), (.ref 135), (.int 50 0), (.int 0 0), (.ref 142), (.int 53 0), (.int 0 0), (.ref 149), (.int 55 0), (.int 0 0), (.ref 154), (.int 57 0), (.int 0 0), (.ref 161), (.int 61 0), (.int 0 0), (.ref 167), (.int 70 0), (.int 0 0), (.ref 172), (.int 80 0), (.int 0 0), (.ref 179), (.int 82 0), (.int 0 0), (.ref 184), (.int 91 0), (.int 0 0), (.ref 189), (.int 93 0), (.int 0 0), (.ref 196), (.int 97 0), (.int 0 0), (.ref 201), (.int 99 0), (.int 0 0), (.ref 206), (.int 110 0), (.int 0 0), (.ref 213), (.int 114 0), (.int 0 0), (.ref 220), (.int 119 0), (.int 0 0), (.ref 227), (.int 121 0), (.int 0 0), (.ref 234), (.int 123 0), (.int 0 0), (.ref 239), (.int 126 0), (.int 0 0), (.ref 246)]) #[])
def o169_8(P:Pz):=(sq0 "tuple" 0)
def o170_8(P:Pz):=(nf0)
def o171_8(P:Pz):=(fo1 "has_move_form" "has_move_form" (top 25) 0 0)
def o172_8(P:Pz):=(cob "has_move_form" 415 "has_move_form" 416 417 70 1 0 0 3 169 true 181 170 .none .none (.ref 171) 418 70 419)
def o173_8(P:Pz):=(fo2 "has_move_form" "has_move_form" (top 25) 3 "spinboard.moves" 385 172 0)
def o174_8(P:Pz):=(sq0 "tuple" 0)
def o175_8(P:Pz):=(nf0)
def o176_8(P:Pz):=(Obj.mk (.type "tuple") none (Data.seq #[(.str "move" 424)] 0) #[])
def o177_8(P:Pz):=(sq0 "tuple" 0)
def o178_8(P:Pz):=(Obj.mk .none none (Data.func (FuncData.mk "named_cells" "named_cells" (defArgs (top 26)) (FuncBody.stmts (defBody (top 26))) (defScope (top 36)) 0 [] .none .none .none .none none .none .none 0)) #[])
def o179_8(P:Pz):=(cob "named_cells" 421 "named_cells" 422 423 80 1 0 0 3 174 true 181 175 (.ref 176) (.ref 177) (.ref 178) 425 80 426)
def o180_8(P:Pz):=(Obj.mk (.type "function") none (Data.func (FuncData.mk "named_cells" "named_cells" (defArgs (top 26)) (FuncBody.stmts (defBody (top 26))) (defScope (top 36)) 3 [] .none .none .none (.str "spinboard.moves" 385) none (.ref 179) .none 0)) #[])
def o181_8(P:Pz):=(sq0 "tuple" 0)
def o182_8(P:Pz):=(nf0)
def o183_8(P:Pz):=(fo1 "turned" "turned" (top 27) 0 0)
def o184_8(P:Pz):=(cob "turned" 428 "turned" 429 430 82 2 0 0 3 181 true 181 182 .none .none (.ref 183) 431 82 432)
def o185_8(P:Pz):=(fo2 "turned" "turned" (top 27) 3 "spinboard.moves" 385 184 0)
def o186_8(P:Pz):=(sq0 "tuple" 0)
def o187_8(P:Pz):=(nf0)
def o188_8(P:Pz):=(fo1 "mixed" "mixed" (top 28) 0 0)
def o189_8(P:Pz):=(cob "mixed" 434 "mixed" 435 436 91 2 0 0 3 186 true 181 187 .none .none (.ref 188) 437 91 438)
def o190_8(P:Pz):=(fo2 "mixed" "mixed" (top 28) 3 "spinboard.moves" 385 189 0)
def o191_8(P:Pz):=(sq0 "tuple" 0)
def o192_8(P:Pz):=(nf0)
def o193_8(P:Pz):=(Obj.mk (.type "tuple") none (Data.seq #[(.str "board" 443), (.str "word" 444), (.str "bit" 445)] 0) #[])
def o194_8(P:Pz):=(sq0 "tuple" 0)
def o195_8(P:Pz):=(fo1 "mixed_at" "mixed_at" (top 29) 0 0)
def o196_8(P:Pz):=(cob "mixed_at" 440 "mixed_at" 441 442 93 3 0 0 3 191 true 181 192 (.ref 193) (.ref 194) (.ref 195) 446 93 447)
def o197_8(P:Pz):=(fo2 "mixed_at" "mixed_at" (top 29) 3 "spinboard.moves" 385 196 0)
def o198_8(P:Pz):=(sq0 "tuple" 0)
def o199_8(P:Pz):=(nf0)
def o200_8(P:Pz):=(fo1 "spun_where" "spun_where" (top 30) 0 0)
def o201_8(P:Pz):=(cob "spun_where" 449 "spun_where" 450 451 97 3 0 0 3 198 true 181 199 .none .none (.ref 200) 452 97 453)
def o202_8(P:Pz):=(fo2 "spun_where" "spun_where" (top 30) 3 "spinboard.moves" 385 201 0)
def o203_8(P:Pz):=(sq0 "tuple" 0)
def o204_8(P:Pz):=(nf0)
def o205_8(P:Pz):=(fo1 "word_behind" "word_behind" (top 31) 0 0)
def o206_8(P:Pz):=(cob "word_behind" 455 "word_behind" 456 457 99 2 0 0 3 203 true 181 204 .none .none (.ref 205) 458 99 459)
def o207_8(P:Pz):=(fo2 "word_behind" "word_behind" (top 31) 3 "spinboard.moves" 385 206 0)
def o208_8(P:Pz):=(sq0 "tuple" 0)
def o209_8(P:Pz):=(nf0)
def o210_8(P:Pz):=(Obj.mk (.type "tuple") none (Data.seq #[(.str "word" 464), (.str "bit" 465), (.str "other" 466), (.str "both" 467)] 0) #[])
def o211_8(P:Pz):=(sq0 "tuple" 0)
def o212_8(P:Pz):=(fo1 "exchanged" "exchanged" (top 32) 0 0)
def o213_8(P:Pz):=(cob "exchanged" 461 "exchanged" 462 463 110 3 0 0 3 208 true 181 209 (.ref 210) (.ref 211) (.ref 212) 468 110 469)
def o214_8(P:Pz):=(fo2 "exchanged" "exchanged" (top 32) 3 "spinboard.moves" 385 213 0)
def o215_8(P:Pz):=(sq0 "tuple" 0)
def o216_8(P:Pz):=(nf0)
def o217_8(P:Pz):=(Obj.mk (.type "tuple") none (Data.seq #[(.str "row" 476), (.str "place" 477), (.str "move" 478)] 0) #[])
def o218_8(P:Pz):=(sq0 "tuple" 0)
def o219_8(P:Pz):=(fo1 "borne" "borne" (top 34) 0 0)
def o220_8(P:Pz):=(cob "borne" 473 "borne" 474 475 114 1 0 0 3 215 true 181 216 (.ref 217) (.ref 218) (.ref 219) 479 114 480)
def o221_8(P:Pz):=(fo2 "borne" "borne" (top 34) 3 "spinboard.tableturns" 471 220 0)
def o222_8(P:Pz):=(sq0 "tuple" 0)
def o223_8(P:Pz):=(nf0)
def o224_8(P:Pz):=(Obj.mk (.type "tuple") none (Data.seq #[(.str "move" 485)] 0) #[])
def o225_8(P:Pz):=(sq0 "tuple" 0)
def o226_8(P:Pz):=(fo1 "is_borne" "is_borne" (top 35) 0 0)
def o227_8(P:Pz):=(cob "is_borne" 482 "is_borne" 483 484 119 1 0 0 3 222 true 181 223 (.ref 224) (.ref 225) (.ref 226) 486 119 487)
def o228_8(P:Pz):=(fo2 "is_borne" "is_borne" (top 35) 3 "spinboard.tableturns" 471 227 0)
def o229_8(P:Pz):=(sq0 "tuple" 0)
def o230_8(P:Pz):=(nf0)
def o231_8(P:Pz):=(Obj.mk (.type "tuple") none (Data.seq #[(.str "move" 492)] 0) #[])
def o232_8(P:Pz):=(sq0 "tuple" 0)
def o233_8(P:Pz):=(fo1 "is_odd_turn" "is_odd_turn" (top 36) 0 0)
def o234_8(P:Pz):=(cob "is_odd_turn" 489 "is_odd_turn" 490 491 121 1 0 0 3 229 true 181 230 (.ref 231) (.ref 232) (.ref 233) 493 121 494)
def o235_8(P:Pz):=(fo2 "is_odd_turn" "is_odd_turn" (top 36) 3 "spinboard.tableturns" 471 234 0)
def o236_8(P:Pz):=(sq0 "tuple" 0)
def o237_8(P:Pz):=(nf0)
def o238_8(P:Pz):=(fo1 "moved_rows" "moved_rows" (top 37) 0 0)
def o239_8(P:Pz):=(cob "moved_rows" 496 "moved_rows" 497 498 123 2 0 0 3 236 true 181 237 .none .none (.ref 238) 499 123 500)
def o240_8(P:Pz):=(fo2 "moved_rows" "moved_rows" (top 37) 3 "spinboard.tableturns" 471 239 0)
def o241_8(P:Pz):=(sq0 "tuple" 0)
def o242_8(P:Pz):=(nf0)
def o243_8(P:Pz):=(Obj.mk (.type "tuple") none (Data.seq #[(.str "row" 505), (.str "place" 506)] 0) #[])
def o244_8(P:Pz):=(sq0 "tuple" 0)
def o245_8(P:Pz):=(fo1 "check_borne" "check_borne" (top 38) 0 0)
def o246_8(P:Pz):=(cob "check_borne" 502 "check_borne" 503 504 126 1 0 0 3 241 true 181 242 (.ref 243) (.ref 244) (.ref 245) 507 126 508)
def o247_8(P:Pz):=(fo2 "check_borne" "check_borne" (top 38) 3 "spinboard.tableturns" 471 246 0)
def T7 (P : Params) : BT := ((((((((((((((((((((((((((((((((((((((((((((((((((((((((((((((((((((((((((((((((((T6 P).ins 3 (o3_8 P)).ins 12 (o12_8 P)).ins 169 (o169_8 P)).ins 170 (o170_8 P)).ins 171 (o171_8 P)).ins 172 (o172_8 P)).ins 173 (o173_8 P)).ins 174 (o174_8 P)).ins 175 (o175_8 P)).ins 176 (o176_8 P)).ins 177 (o177_8 P)).ins 178 (o178_8 P)).ins 179 (o179_8 P)).ins 180 (o180_8 P)).ins 181 (o181_8 P)).ins 182 (o182_8 P)).ins 183 (o183_8 P)).ins 184 (o184_8 P)).ins 185 (o185_8 P)).ins 186 (o186_8 P)).ins 187 (o187_8 P)).ins 188 (o188_8 P)).ins 189 (o189_8 P)).ins 190 (o190_8 P)).ins 191 (o191_8 P)).ins 192 (o192_8 P)).ins 193 (o193_8 P)).ins 194 (o194_8 P)).ins 195 (o195_8 P)).ins 196 (o196_8 P)).ins 197 (o197_8 P)).ins 198 (o198_8 P)).ins 199 (o199_8 P)).ins 200 (o200_8 P)).ins 201 (o201_8 P)).ins 202 (o202_8 P)).ins 203 (o203_8 P)).ins 204 (o204_8 P)).ins 205 (o205_8 P)).ins 206 (o206_8 P)).ins 207 (o207_8 P)).ins 208 (o208_8 P)).ins 209 (o209_8 P)).ins 210 (o210_8 P)).ins 211 (o211_8 P)).ins 212 (o212_8 P)).ins 213 (o213_8 P)).ins 214 (o214_8 P)).ins 215 (o215_8 P)).ins 216 (o216_8 P)).ins 217 (o217_8 P)).ins 218 (o218_8 P)).ins 219 (o219_8 P)).ins 220 (o220_8 P)).ins 221 (o221_8 P)).ins 222 (o222_8 P)).ins 223 (o223_8 P)).ins 224 (o224_8 P)).ins 225 (o225_8 P)).ins 226 (o226_8 P)).ins 227 (o227_8 P)).ins 228 (o228_8 P)).ins 229 (o229_8 P)).ins 230 (o230_8 P)).ins 231 (o231_8 P)).ins 232 (o232_8 P)).ins 233 (o233_8 P)).ins 234 (o234_8 P)).ins 235 (o235_8 P)).ins 236 (o236_8 P)).ins 237 (o237_8 P)).ins 238 (o238_8 P)).ins 239 (o239_8 P)).ins 240 (o240_8 P)).ins 241 (o241_8 P)).ins 242 (o242_8 P)).ins 243 (o243_8 P)).ins 244 (o244_8 P)).ins 245 (o245_8 P)).ins 246 (o246_8 P)).ins 247 (o247_8 P))
theorem g6 (p : Program) (b : List Stmt) (w : World) (os : OsState) : segRunT treeTable p w 11 (some (.ref 6)) 1 377 (SharedT.mk (T6 w.params) 169 life (Array.mk []) (Drawn.mk 0 0 0 0) 415 os) (piecesOf l6 en (Code.body b en) (Pos.mk 61 0 69 15) BB) = some (Flow.next, (SharedT.mk (T7 w.params) 248 life (Array.mk []) (Drawn.mk 0 0 0 0) 510 os), Code.body b en, (Pos.mk 126 0 129 29)) := by rw [PySem.W.Fast.te10110043849684766642, PySem.W.Fast.te14364793385576792824]; kernel_rfl
def o3_9(P:Pz):=Obj.mk (.type "dict") none (Data.dict #[(dn P "__name__" 165 (.str "law_spinboard_k73_images" 617)), (dn P "__doc__" 166 .none), (dn P "__package__" 167 .none), (dn P "__loader__" 168 (.builtin "__main__.__loader__#opaque")), (dn P "__spec__" 169 .none), (dn P "__annotations__" 170 (.ref 6)), (dn P "__builtins__" 171 (.ref 4)), (dn P "__file__" 173 (.str "/claim/cut.py" 172)), (dn P "__cached__" 174 .none), (dn P "BoardError" 206 (.ref 24)), (dn P "NoMove" 222 (.ref 37)), (dn P "NoCell" 238 (.ref 49)), (dn P "NoTable" 254 (.ref 61)), (dn P "NotBorne" 279 (.ref 80)), (dn P "is_whole" 288 (.ref 89)), (dn P "ones" 299 (.ref 96)), (dn P "turned_about" 306 (.ref 103)), (dn P "halved_out" 322 (.ref 110)), (dn P "plus" 328 (.ref 115)), (dn P "minus" 336 (.ref 122)), (dn P "spun" 346 (.ref 129)), (dn P "spun_once" 353 (.ref 136)), (dn P "rooted" 360 (.ref 143)), (dn P "cells_of" 369 (.ref 150)), (dn P "laid_on" 375 (.ref 155)), (dn P "spun_by_mark" 384 (.ref 162)), (dn P "NUMBERS_BEHIND" 408 (.ref 163)), (dn P "check_move" 414 (.ref 168)), (dn P "has_move_form" 420 (.ref 173)), (dn P "named_cells" 427 (.ref 180)), (dn P "turned" 433 (.ref 185)), (dn P "mixed" 439 (.ref 190)), (dn P "mixed_at" 448 (.ref 197)), (dn P "spun_where" 454 (.ref 202)), (dn P "word_behind" 460 (.ref 207)), (dn P "exchanged" 470 (.ref 214)), (dn P "borne" 481 (.ref 221)), (dn P "is_borne" 488 (.ref 228)), (dn P "is_odd_turn" 495 (.ref 235)), (dn P "moved_rows" 501 (.ref 240)), (dn P "check_borne" 509 (.ref 247)), (dn P "moved_through" 519 (.ref 254)), (dn P "moved_by" 529 (.ref 261)), (dn P "moved_by_mix" 540 (.ref 268)), (dn P "moved_by_turn" 550 (.ref 275)), (dn P "moved_by_if" 561 (.ref 282)), (dn P "moved_by_pair" 572 (.ref 289)), (dn P "images" 582 (.ref 296)), (dn P "plain_marks" 591 (.ref 303)), (dn P "unlike" 604 (.ref 310)), (dn P "run" 616 (.ref 317)), (dn P "_law_cell_at" 626 (.ref 324))] 52) #[]
def o12_9(P:Pz):=(Obj.mk .none none (Data.fields #[(.int 2 0), (.int 0 0), (.ref 20), (.int 4 0), (.int 0 0), (.ref 33), (.int 6 0), (.int 0 0), (.ref 45), (.int 8 0), (.int 0 0), (.ref 57), (.int 10 0), (.int 0 0), (.ref 69), (.int 15 0), (.int 0 0), (.ref 88), (.int 18 0), (.int 0 0), (.ref 95), (.int 25 0), (.int 0 0), (.ref 102), (.int 28 0), (.int 0 0), (.ref 109), (.int 35 0), (.int 0 0), (.ref 114), (.int 41 0), (.int 0 0), (.ref 121), (.int 43 0), (.int 0 0), (.ref 128), (.int 48 0), (.int 0 0), (.ref 135), (.int 50 0), (.int 0 0), (.ref 142), (.int 53 0), (.int 0 0), (.ref 149), (.int 55 0), (.int 0 0), (.ref 154), (.int 57 0), (.int 0 0), (.ref 161), (.int 61 0), (.int 0 0), (.ref 167), (.int 70 0), (.int 0 0), (.ref 172), (.int 80 0), (.int 0 0), (.ref 179), (.int 82 0), (.int 0 0), (.ref 184), (.int 91 0), (.int 0 0), (.ref 189), (.int 93 0), (.int 0 0), (.ref 196), (.int 97 0), (.int 0 0), (.ref 201), (.int 99 0), (.int 0 0), (.ref 206), (.int 110 0), (.int 0 0), (.ref 213), (.int 114 0), (.int 0 0), (.ref 220), (.int 119 0), (.int 0 0), (.ref 227), (.int 121 0), (.int 0 0), (.ref 234), (.int 123 0), (.int 0 0), (.ref 239), (.int 126 0), (.int 0 0), (.ref 246), (.int 130 0), (.int 0 0), (.ref 253), (.int 135 0), (.int 0 0), (.ref 260), (.int 149 0), (.int 0 0), (.ref 267), (.int 154 0), (.int 0 0), (.ref 274), (.int 159 0), (.int 0 0), (.ref 281), (.int 163 0), (.int 0 0), (.ref 288), (.int 172 0), (.int 0 0), (.ref 295), (.int 174 0), (.int 0 0), (.ref 302), (.int 179 0), (.int 0 0), (.ref 309), (.int 187 0), (.int 0 0), (.ref 316), (.int 193 0), (.int 0 0), (.ref 323)]) #[])
def o248_9(P:Pz):=(sq0 "tuple" 0)
def o249_9(P:Pz):=(nf0)
def o250_9(P:Pz):=(Obj.mk (.type "tuple") none (Data.seq #[(.str "mark" 513), (.str "row" 514), (.str "behind" 515), (.str "move" 516)] 0) #[])
def o251_9(P:Pz):=(sq0 "tuple" 0)
def o252_9(P:Pz):=(fo1 "moved_through" "moved_through" (top 39) 0 0)
def o253_9(P:Pz):=(cob "moved_through" 510 "moved_through" 511 512 130 2 0 0 3 248 true 181 249 (.ref 250) (.ref 251) (.ref 252) 517 130 518)
def o254_9(P:Pz):=(fo2 "moved_through" "moved_through" (top 39) 3 "spinboard.tableturns" 471 253 0)
def o255_9(P:Pz):=(sq0 "tuple" 0)
def o256_9(P:Pz):=(nf0)
def o257_9(P:Pz):=(Obj.mk (.type "tuple") none (Data.seq #[(.str "mark" 523), (.str "move" 524), (.str "bit" 525), (.str "other" 526)] 0) #[])
def o258_9(P:Pz):=(sq0 "tuple" 0)
def o259_9(P:Pz):=(fo1 "moved_by" "moved_by" (top 40) 0 0)
def o260_9(P:Pz):=(cob "moved_by" 520 "moved_by" 521 522 135 2 0 0 3 255 true 181 256 (.ref 257) (.ref 258) (.ref 259) 527 135 528)
def o261_9(P:Pz):=(fo2 "moved_by" "moved_by" (top 40) 3 "spinboard.tableturns" 471 260 0)
def o262_9(P:Pz):=(sq0 "tuple" 0)
def o263_9(P:Pz):=(nf0)
def o264_9(P:Pz):=(Obj.mk (.type "tuple") none (Data.seq #[(.str "mark" 533), (.str "bit" 534), (.str "flips" 535), (.str "signs" 536), (.str "moved" 537)] 0) #[])
def o265_9(P:Pz):=(sq0 "tuple" 0)
def o266_9(P:Pz):=(fo1 "moved_by_mix" "moved_by_mix" (top 41) 0 0)
def o267_9(P:Pz):=(cob "moved_by_mix" 530 "moved_by_mix" 531 532 149 2 0 0 3 262 true 181 263 (.ref 264) (.ref 265) (.ref 266) 538 149 539)
def o268_9(P:Pz):=(fo2 "moved_by_mix" "moved_by_mix" (top 41) 3 "spinboard.tableturns" 471 267 0)
def o269_9(P:Pz):=(sq0 "tuple" 0)
def o270_9(P:Pz):=(nf0)
def o271_9(P:Pz):=(Obj.mk (.type "tuple") none (Data.seq #[(.str "mark" 544), (.str "bit" 545), (.str "k" 546), (.str "signs" 547)] 0) #[])
def o272_9(P:Pz):=(sq0 "tuple" 0)
def o273_9(P:Pz):=(fo1 "moved_by_turn" "moved_by_turn" (top 42) 0 0)
def o274_9(P:Pz):=(cob "moved_by_turn" 541 "moved_by_turn" 542 543 154 3 0 0 3 269 true 181 270 (.ref 271) (.ref 272) (.ref 273) 548 154 549)
def o275_9(P:Pz):=(fo2 "moved_by_turn" "moved_by_turn" (top 42) 3 "spinboard.tableturns" 471 274 0)
def o276_9(P:Pz):=(sq0 "tuple" 0)
def o277_9(P:Pz):=(nf0)
def o278_9(P:Pz):=(Obj.mk (.type "tuple") none (Data.seq #[(.str "mark" 554), (.str "bit" 555), (.str "other" 556), (.str "flips" 557), (.str "signs" 558)] 0) #[])
def o279_9(P:Pz):=(sq0 "tuple" 0)
def o280_9(P:Pz):=(fo1 "moved_by_if" "moved_by_if" (top 43) 0 0)
def o281_9(P:Pz):=(cob "moved_by_if" 551 "moved_by_if" 552 553 159 3 0 0 3 276 true 181 277 (.ref 278) (.ref 279) (.ref 280) 559 159 560)
def o282_9(P:Pz):=(fo2 "moved_by_if" "moved_by_if" (top 43) 3 "spinboard.tableturns" 471 281 0)
def o283_9(P:Pz):=(sq0 "tuple" 0)
def o284_9(P:Pz):=(nf0)
def o285_9(P:Pz):=(Obj.mk (.type "tuple") none (Data.seq #[(.str "mark" 565), (.str "bit" 566), (.str "other" 567), (.str "signs" 568), (.str "moved" 569)] 0) #[])
def o286_9(P:Pz):=(sq0 "tuple" 0)
def o287_9(P:Pz):=(fo1 "moved_by_pair" "moved_by_pair" (top 44) 0 0)
def o288_9(P:Pz):=(cob "moved_by_pair" 562 "moved_by_pair" 563 564 163 3 0 0 3 283 true 181 284 (.ref 285) (.ref 286) (.ref 287) 570 163 571)
def o289_9(P:Pz):=(fo2 "moved_by_pair" "moved_by_pair" (top 44) 3 "spinboard.tableturns" 471 288 0)
def o290_9(P:Pz):=(sq0 "tuple" 0)
def o291_9(P:Pz):=(nf0)
def o292_9(P:Pz):=(Obj.mk (.type "tuple") none (Data.seq #[(.str "row" 578), (.str "cells" 579)] 0) #[])
def o293_9(P:Pz):=(sq0 "tuple" 0)
def o294_9(P:Pz):=(fo1 "images" "images" (top 46) 0 0)
def o295_9(P:Pz):=(cob "images" 575 "images" 576 577 172 2 0 0 3 290 true 181 291 (.ref 292) (.ref 293) (.ref 294) 580 172 581)
def o296_9(P:Pz):=(fo2 "images" "images" (top 46) 3 "spinboard.images" 573 295 0)
def o297_9(P:Pz):=(sq0 "tuple" 0)
def o298_9(P:Pz):=(nf0)
def o299_9(P:Pz):=(Obj.mk (.type "tuple") none (Data.seq #[(.str "cells" 586), (.str "marks" 587), (.str "cell" 588)] 0) #[])
def o300_9(P:Pz):=(sq0 "tuple" 0)
def o301_9(P:Pz):=(fo1 "plain_marks" "plain_marks" (top 47) 0 0)
def o302_9(P:Pz):=(cob "plain_marks" 583 "plain_marks" 584 585 174 1 0 0 3 297 true 181 298 (.ref 299) (.ref 300) (.ref 301) 589 174 590)
def o303_9(P:Pz):=(fo2 "plain_marks" "plain_marks" (top 47) 3 "spinboard.images" 573 302 0)
def o304_9(P:Pz):=(sq0 "tuple" 0)
def o305_9(P:Pz):=(nf0)
def o306_9(P:Pz):=(Obj.mk (.type "tuple") none (Data.seq #[(.str "row" 595), (.str "other" 596), (.str "cells" 597), (.str "by_row" 598), (.str "by_other" 599), (.str "place" 600), (.str "mark" 601)] 0) #[])
def o307_9(P:Pz):=(sq0 "tuple" 0)
def o308_9(P:Pz):=(fo1 "unlike" "unlike" (top 48) 0 0)
def o309_9(P:Pz):=(cob "unlike" 592 "unlike" 593 594 179 3 0 0 3 304 true 181 305 (.ref 306) (.ref 307) (.ref 308) 602 179 603)
def o310_9(P:Pz):=(fo2 "unlike" "unlike" (top 48) 3 "spinboard.images" 573 309 0)
def o311_9(P:Pz):=(sq0 "tuple" 0)
def o312_9(P:Pz):=(nf0)
def o313_9(P:Pz):=(Obj.mk (.type "tuple") none (Data.seq #[(.str "board" 610), (.str "row" 611), (.str "behind" 612), (.str "move" 613)] 0) #[])
def o314_9(P:Pz):=(sq0 "tuple" 0)
def o315_9(P:Pz):=(fo1 "run" "run" (top 50) 0 0)
def o316_9(P:Pz):=(cob "run" 607 "run" 608 609 187 2 0 0 3 311 true 181 312 (.ref 313) (.ref 314) (.ref 315) 614 187 615)
def o317_9(P:Pz):=(fo2 "run" "run" (top 50) 3 "spinboard.rows" 605 316 0)
def o318_9(P:Pz):=(sq0 "tuple" 0)
def o319_9(P:Pz):=(nf0)
def o320_9(P:Pz):=(Obj.mk (.type "tuple") none (Data.seq #[(.str "_law_script" 622), (.str "_law_k" 623)] 0) #[])
def o321_9(P:Pz):=(sq0 "tuple" 0)
def o322_9(P:Pz):=(fo1 "_law_cell_at" "_law_cell_at" (top 52) 0 0)
def o323_9(P:Pz):=(cob "_law_cell_at" 619 "_law_cell_at" 620 621 193 2 0 0 3 318 true 181 319 (.ref 320) (.ref 321) (.ref 322) 624 193 625)
def o324_9(P:Pz):=(fo2 "_law_cell_at" "_law_cell_at" (top 52) 3 "law_spinboard_k73_images" 617 323 0)
def T8 (P : Params) : BT := ((((((((((((((((((((((((((((((((((((((((((((((((((((((((((((((((((((((((((((((((T7 P).ins 3 (o3_9 P)).ins 12 (o12_9 P)).ins 248 (o248_9 P)).ins 249 (o249_9 P)).ins 250 (o250_9 P)).ins 251 (o251_9 P)).ins 252 (o252_9 P)).ins 253 (o253_9 P)).ins 254 (o254_9 P)).ins 255 (o255_9 P)).ins 256 (o256_9 P)).ins 257 (o257_9 P)).ins 258 (o258_9 P)).ins 259 (o259_9 P)).ins 260 (o260_9 P)).ins 261 (o261_9 P)).ins 262 (o262_9 P)).ins 263 (o263_9 P)).ins 264 (o264_9 P)).ins 265 (o265_9 P)).ins 266 (o266_9 P)).ins 267 (o267_9 P)).ins 268 (o268_9 P)).ins 269 (o269_9 P)).ins 270 (o270_9 P)).ins 271 (o271_9 P)).ins 272 (o272_9 P)).ins 273 (o273_9 P)).ins 274 (o274_9 P)).ins 275 (o275_9 P)).ins 276 (o276_9 P)).ins 277 (o277_9 P)).ins 278 (o278_9 P)).ins 279 (o279_9 P)).ins 280 (o280_9 P)).ins 281 (o281_9 P)).ins 282 (o282_9 P)).ins 283 (o283_9 P)).ins 284 (o284_9 P)).ins 285 (o285_9 P)).ins 286 (o286_9 P)).ins 287 (o287_9 P)).ins 288 (o288_9 P)).ins 289 (o289_9 P)).ins 290 (o290_9 P)).ins 291 (o291_9 P)).ins 292 (o292_9 P)).ins 293 (o293_9 P)).ins 294 (o294_9 P)).ins 295 (o295_9 P)).ins 296 (o296_9 P)).ins 297 (o297_9 P)).ins 298 (o298_9 P)).ins 299 (o299_9 P)).ins 300 (o300_9 P)).ins 301 (o301_9 P)).ins 302 (o302_9 P)).ins 303 (o303_9 P)).ins 304 (o304_9 P)).ins 305 (o305_9 P)).ins 306 (o306_9 P)).ins 307 (o307_9 P)).ins 308 (o308_9 P)).ins 309 (o309_9 P)).ins 310 (o310_9 P)).ins 311 (o311_9 P)).ins 312 (o312_9 P)).ins 313 (o313_9 P)).ins 314 (o314_9 P)).ins 315 (o315_9 P)).ins 316 (o316_9 P)).ins 317 (o317_9 P)).ins 318 (o318_9 P)).ins 319 (o319_9 P)).ins 320 (o320_9 P)).ins 321 (o321_9 P)).ins 322 (o322_9 P)).ins 323 (o323_9 P)).ins 324 (o324_9 P))
theorem g7 (p : Program) (b : List Stmt) (w : World) (os : OsState) : segRunT treeTable p w 11 (some (.ref 6)) 1 381 (SharedT.mk (T7 w.params) 248 life (Array.mk []) (Drawn.mk 0 0 0 0) 510 os) (piecesOf l7 en (Code.body b en) (Pos.mk 126 0 129 29) BB) = some (Flow.next, (SharedT.mk (T8 w.params) 325 life (Array.mk []) (Drawn.mk 0 0 0 0) 627 os), Code.body b en, (Pos.mk 193 0 196 12)) := by rw [PySem.W.Fast.te10110043849684766642, PySem.W.Fast.te14364793385576792824]; kernel_rfl
def o3_10(P:Pz):=Obj.mk (.type "dict") none (Data.dict #[(dn P "__name__" 165 (.str "law_spinboard_k73_images" 617)), (dn P "__doc__" 166 .none), (dn P "__package__" 167 .none), (dn P "__loader__" 168 (.builtin "__main__.__loader__#opaque")), (dn P "__spec__" 169 .none), (dn P "__annotations__" 170 (.ref 6)), (dn P "__builtins__" 171 (.ref 4)), (dn P "__file__" 173 (.str "/claim/cut.py" 172)), (dn P "__cached__" 174 .none), (dn P "BoardError" 206 (.ref 24)), (dn P "NoMove" 222 (.ref 37)), (dn P "NoCell" 238 (.ref 49)), (dn P "NoTable" 254 (.ref 61)), (dn P "NotBorne" 279 (.ref 80)), (dn P "is_whole" 288 (.ref 89)), (dn P "ones" 299 (.ref 96)), (dn P "turned_about" 306 (.ref 103)), (dn P "halved_out" 322 (.ref 110)), (dn P "plus" 328 (.ref 115)), (dn P "minus" 336 (.ref 122)), (dn P "spun" 346 (.ref 129)), (dn P "spun_once" 353 (.ref 136)), (dn P "rooted" 360 (.ref 143)), (dn P "cells_of" 369 (.ref 150)), (dn P "laid_on" 375 (.ref 155)), (dn P "spun_by_mark" 384 (.ref 162)), (dn P "NUMBERS_BEHIND" 408 (.ref 163)), (dn P "check_move" 414 (.ref 168)), (dn P "has_move_form" 420 (.ref 173)), (dn P "named_cells" 427 (.ref 180)), (dn P "turned" 433 (.ref 185)), (dn P "mixed" 439 (.ref 190)), (dn P "mixed_at" 448 (.ref 197)), (dn P "spun_where" 454 (.ref 202)), (dn P "word_behind" 460 (.ref 207)), (dn P "exchanged" 470 (.ref 214)), (dn P "borne" 481 (.ref 221)), (dn P "is_borne" 488 (.ref 228)), (dn P "is_odd_turn" 495 (.ref 235)), (dn P "moved_rows" 501 (.ref 240)), (dn P "check_borne" 509 (.ref 247)), (dn P "moved_through" 519 (.ref 254)), (dn P "moved_by" 529 (.ref 261)), (dn P "moved_by_mix" 540 (.ref 268)), (dn P "moved_by_turn" 550 (.ref 275)), (dn P "moved_by_if" 561 (.ref 282)), (dn P "moved_by_pair" 572 (.ref 289)), (dn P "images" 582 (.ref 296)), (dn P "plain_marks" 591 (.ref 303)), (dn P "unlike" 604 (.ref 310)), (dn P "run" 616 (.ref 317)), (dn P "_law_cell_at" 626 (.ref 324)), (dn P "_law_whole" 633 (.ref 331)), (dn P "_law_number" 643 (.ref 338)), (dn P "_law_lowest" 649 (.ref 343)), (dn P "_law_amount" 660 (.ref 350)), (dn P "_law_board" 666 (.ref 355)), (dn P "_law_move" 677 (.ref 362)), (dn P "_law_back" 684 (.ref 369)), (dn P "_law_foreign" 692 (.ref 376)), (dn P "_law_is_mark" 700 (.ref 383)), (dn P "_law_refused_at" 713 (.ref 390)), (dn P "_law_images_are" 726 (.ref 397)), (dn P "law" 732 (.ref 402))] 64) #[]
def o12_10(P:Pz):=(Obj.mk .none none (Data.fields #[(.int 2 0), (.int 0 0), (.ref 20), (.int 4 0), (.int 0 0), (.ref 33), (.int 6 0), (.int 0 0), (.ref 45), (.int 8 0), (.int 0 0), (.ref 57), (.int 10 0), (.int 0 0), (.ref 69), (.int 15 0), (.int 0 0), (.ref 88), (.int 18 0), (.int 0 0), (.ref 95), (.int 25 0), (.int 0 0), (.ref 102), (.int 28 0), (.int 0 0), (.ref 109), (.int 35 0), (.int 0 0), (.ref 114), (.int 41 0), (.int 0 0), (.ref 121), (.int 43 0), (.int 0 0), (.ref 128), (.int 48 0), (.int 0 0), (.ref 135), (.int 50 0), (.int 0 0), (.ref 142), (.int 53 0), (.int 0 0), (.ref 149), (.int 55 0), (.int 0 0), (.ref 154), (.int 57 0), (.int 0 0), (.ref 161), (.int 61 0), (.int 0 0), (.ref 167), (.int 70 0), (.int 0 0), (.ref 172), (.int 80 0), (.int 0 0), (.ref 179), (.int 82 0), (.int 0 0), (.ref 184), (.int 91 0), (.int 0 0), (.ref 189), (.int 93 0), (.int 0 0), (.ref 196), (.int 97 0), (.int 0 0), (.ref 201), (.int 99 0), (.int 0 0), (.ref 206), (.int 110 0), (.int 0 0), (.ref 213), (.int 114 0), (.int 0 0), (.ref 220), (.int 119 0), (.int 0 0), (.ref 227), (.int 121 0), (.int 0 0), (.ref 234), (.int 123 0), (.int 0 0), (.ref 239), (.int 126 0), (.int 0 0), (.ref 246), (.int 130 0), (.int 0 0), (.ref 253), (.int 135 0), (.int 0 0), (.ref 260), (.int 149 0), (.int 0 0), (.ref 267), (.int 154 0), (.int 0 0), (.ref 274), (.int 159 0), (.int 0 0), (.ref 281), (.int 163 0), (.int 0 0), (.ref 288), (.int 172 0), (.int 0 0), (.ref 295), (.int 174 0), (.int 0 0), (.ref 302), (.int 179 0), (.int 0 0), (.ref 309), (.int 187 0), (.int 0 0), (.ref 316), (.int 193 0), (.int 0 0), (.ref 323), (.int 197 0), (.int 0 0), (.ref 330), (.int 199 0), (.int 0 0), (.ref 337), (.int 206 0), (.int 0 0), (.ref 342), (.int 211 0), (.int 0 0), (.ref 349), (.int 228 0), (.int 0 0), (.ref 354), (.int 235 0), (.int 0 0), (.ref 361), (.int 244 0), (.int 0 0), (.ref 368), (.int 248 0), (.int 0 0), (.ref 375), (.int 252 0), (.int 0 0), (.ref 382), (.int 260 0), (.int 0 0), (.ref 389), (.int 278 0), (.int 0 0), (.ref 396), (.int 289 0), (.int 0 0), (.ref 401)]) #[])
def o325_10(P:Pz):=(sq0 "tuple" 0)
def o326_10(P:Pz):=(nf0)
def o327_10(P:Pz):=(Obj.mk (.type "tuple") none (Data.seq #[(.str "_law_found" 630)] 0) #[])
def o328_10(P:Pz):=(sq0 "tuple" 0)
def o329_10(P:Pz):=(fo1 "_law_whole" "_law_whole" (top 53) 0 0)
def o330_10(P:Pz):=(cob "_law_whole" 627 "_law_whole" 628 629 197 1 0 0 3 325 true 181 326 (.ref 327) (.ref 328) (.ref 329) 631 197 632)
def o331_10(P:Pz):=(fo2 "_law_whole" "_law_whole" (top 53) 3 "law_spinboard_k73_images" 617 330 0)
def o332_10(P:Pz):=(sq0 "tuple" 0)
def o333_10(P:Pz):=(nf0)
def o334_10(P:Pz):=(Obj.mk (.type "tuple") none (Data.seq #[(.str "_law_script" 637), (.str "_law_k" 638), (.str "_law_cell" 639), (.str "_law_number_here" 640)] 0) #[])
def o335_10(P:Pz):=(sq0 "tuple" 0)
def o336_10(P:Pz):=(fo1 "_law_number" "_law_number" (top 54) 0 0)
def o337_10(P:Pz):=(cob "_law_number" 634 "_law_number" 635 636 199 2 0 0 3 332 true 181 333 (.ref 334) (.ref 335) (.ref 336) 641 199 642)
def o338_10(P:Pz):=(fo2 "_law_number" "_law_number" (top 54) 3 "law_spinboard_k73_images" 617 337 0)
def o339_10(P:Pz):=(sq0 "tuple" 0)
def o340_10(P:Pz):=(nf0)
def o341_10(P:Pz):=(fo1 "_law_lowest" "_law_lowest" (top 55) 0 0)
def o342_10(P:Pz):=(cob "_law_lowest" 644 "_law_lowest" 645 646 206 2 0 0 3 339 true 181 340 .none .none (.ref 341) 647 206 648)
def o343_10(P:Pz):=(fo2 "_law_lowest" "_law_lowest" (top 55) 3 "law_spinboard_k73_images" 617 342 0)
def o344_10(P:Pz):=(sq0 "tuple" 0)
def o345_10(P:Pz):=(nf0)
def o346_10(P:Pz):=(Obj.mk (.type "tuple") none (Data.seq #[(.str "_law_number_here" 653), (.str "_law_way" 654), (.str "_law_left" 655), (.str "_law_four" 656), (.str "_law_k" 657)] 0) #[])
def o347_10(P:Pz):=(sq0 "tuple" 0)
def o348_10(P:Pz):=(fo1 "_law_amount" "_law_amount" (top 56) 0 0)
def o349_10(P:Pz):=(cob "_law_amount" 650 "_law_amount" 651 652 211 1 0 0 3 344 true 181 345 (.ref 346) (.ref 347) (.ref 348) 658 211 659)
def o350_10(P:Pz):=(fo2 "_law_amount" "_law_amount" (top 56) 3 "law_spinboard_k73_images" 617 349 0)
def o351_10(P:Pz):=(sq0 "tuple" 0)
def o352_10(P:Pz):=(nf0)
def o353_10(P:Pz):=(fo1 "_law_board" "_law_board" (top 57) 0 0)
def o354_10(P:Pz):=(cob "_law_board" 661 "_law_board" 662 663 228 2 0 0 3 351 true 181 352 .none .none (.ref 353) 664 228 665)
def o355_10(P:Pz):=(fo2 "_law_board" "_law_board" (top 57) 3 "law_spinboard_k73_images" 617 354 0)
def o356_10(P:Pz):=(sq0 "tuple" 0)
def o357_10(P:Pz):=(nf0)
def o358_10(P:Pz):=(Obj.mk (.type "tuple") none (Data.seq #[(.str "_law_cell" 670), (.str "_law_cells" 671), (.str "_law_number_here" 672), (.str "_law_one" 673), (.str "_law_other" 674)] 0) #[])
def o359_10(P:Pz):=(sq0 "tuple" 0)
def o360_10(P:Pz):=(fo1 "_law_move" "_law_move" (top 58) 0 0)
def o361_10(P:Pz):=(cob "_law_move" 667 "_law_move" 668 669 235 2 0 0 3 356 true 181 357 (.ref 358) (.ref 359) (.ref 360) 675 235 676)
def o362_10(P:Pz):=(fo2 "_law_move" "_law_move" (top 58) 3 "law_spinboard_k73_images" 617 361 0)
def o363_10(P:Pz):=(sq0 "tuple" 0)
def o364_10(P:Pz):=(nf0)
def o365_10(P:Pz):=(Obj.mk (.type "tuple") none (Data.seq #[(.str "_law_move_here" 681)] 0) #[])
def o366_10(P:Pz):=(sq0 "tuple" 0)
def o367_10(P:Pz):=(fo1 "_law_back" "_law_back" (top 59) 0 0)
def o368_10(P:Pz):=(cob "_law_back" 678 "_law_back" 679 680 244 1 0 0 3 363 true 181 364 (.ref 365) (.ref 366) (.ref 367) 682 244 683)
def o369_10(P:Pz):=(fo2 "_law_back" "_law_back" (top 59) 3 "law_spinboard_k73_images" 617 368 0)
def o370_10(P:Pz):=(sq0 "tuple" 0)
def o371_10(P:Pz):=(nf0)
def o372_10(P:Pz):=(Obj.mk (.type "tuple") none (Data.seq #[(.str "_law_cells" 688), (.str "_law_far" 689)] 0) #[])
def o373_10(P:Pz):=(sq0 "tuple" 0)
def o374_10(P:Pz):=(fo1 "_law_foreign" "_law_foreign" (top 60) 0 0)
def o375_10(P:Pz):=(cob "_law_foreign" 685 "_law_foreign" 686 687 248 2 0 0 3 370 true 181 371 (.ref 372) (.ref 373) (.ref 374) 690 248 691)
def o376_10(P:Pz):=(fo2 "_law_foreign" "_law_foreign" (top 60) 3 "law_spinboard_k73_images" 617 375 0)
def o377_10(P:Pz):=(sq0 "tuple" 0)
def o378_10(P:Pz):=(nf0)
def o379_10(P:Pz):=(Obj.mk (.type "tuple") none (Data.seq #[(.str "_law_found" 696), (.str "_law_cells" 697)] 0) #[])
def o380_10(P:Pz):=(sq0 "tuple" 0)
def o381_10(P:Pz):=(fo1 "_law_is_mark" "_law_is_mark" (top 61) 0 0)
def o382_10(P:Pz):=(cob "_law_is_mark" 693 "_law_is_mark" 694 695 252 2 0 0 3 377 true 181 378 (.ref 379) (.ref 380) (.ref 381) 698 252 699)
def o383_10(P:Pz):=(fo2 "_law_is_mark" "_law_is_mark" (top 61) 3 "law_spinboard_k73_images" 617 382 0)
def o384_10(P:Pz):=(sq0 "tuple" 0)
def o385_10(P:Pz):=(nf0)
def o386_10(P:Pz):=(Obj.mk (.type "tuple") none (Data.seq #[(.str "_law_which" 704), (.str "_law_row" 705), (.str "_law_good" 706), (.str "_law_cells" 707), (.str "_law_told" 708), (.str "e" 709), (.str "_law_others" 710)] 0) #[])
def o387_10(P:Pz):=(sq0 "tuple" 0)
def o388_10(P:Pz):=(fo1 "_law_refused_at" "_law_refused_at" (top 62) 0 0)
def o389_10(P:Pz):=(cob "_law_refused_at" 701 "_law_refused_at" 702 703 260 4 0 0 3 384 true 181 385 (.ref 386) (.ref 387) (.ref 388) 711 260 712)
def o390_10(P:Pz):=(fo2 "_law_refused_at" "_law_refused_at" (top 62) 3 "law_spinboard_k73_images" 617 389 0)
def o391_10(P:Pz):=(sq0 "tuple" 0)
def o392_10(P:Pz):=(nf0)
def o393_10(P:Pz):=(Obj.mk (.type "tuple") none (Data.seq #[(.str "_law_found" 717), (.str "_law_board_here" 718), (.str "_law_row" 719), (.str "_law_cells" 720), (.str "_law_behind" 721), (.str "_law_k" 722), (.str "_law_mark" 723)] 0) #[])
def o394_10(P:Pz):=(sq0 "tuple" 0)
def o395_10(P:Pz):=(fo1 "_law_images_are" "_law_images_are" (top 63) 0 0)
def o396_10(P:Pz):=(cob "_law_images_are" 714 "_law_images_are" 715 716 278 4 0 0 3 391 true 181 392 (.ref 393) (.ref 394) (.ref 395) 724 278 725)
def o397_10(P:Pz):=(fo2 "_law_images_are" "_law_images_are" (top 63) 3 "law_spinboard_k73_images" 617 396 0)
def o398_10(P:Pz):=(sq0 "tuple" 0)
def o399_10(P:Pz):=(nf0)
def o400_10(P:Pz):=(fo1 "law" "law" (top 64) 0 0)
def o401_10(P:Pz):=(cob "law" 727 "law" 728 729 289 1 0 0 3 398 true 181 399 .none .none (.ref 400) 730 289 731)
def o402_10(P:Pz):=(fo2 "law" "law" (top 64) 3 "law_spinboard_k73_images" 617 401 0)
def T9 (P : Params) : BT := (((((((((((((((((((((((((((((((((((((((((((((((((((((((((((((((((((((((((((((((((T8 P).ins 3 (o3_10 P)).ins 12 (o12_10 P)).ins 325 (o325_10 P)).ins 326 (o326_10 P)).ins 327 (o327_10 P)).ins 328 (o328_10 P)).ins 329 (o329_10 P)).ins 330 (o330_10 P)).ins 331 (o331_10 P)).ins 332 (o332_10 P)).ins 333 (o333_10 P)).ins 334 (o334_10 P)).ins 335 (o335_10 P)).ins 336 (o336_10 P)).ins 337 (o337_10 P)).ins 338 (o338_10 P)).ins 339 (o339_10 P)).ins 340 (o340_10 P)).ins 341 (o341_10 P)).ins 342 (o342_10 P)).ins 343 (o343_10 P)).ins 344 (o344_10 P)).ins 345 (o345_10 P)).ins 346 (o346_10 P)).ins 347 (o347_10 P)).ins 348 (o348_10 P)).ins 349 (o349_10 P)).ins 350 (o350_10 P)).ins 351 (o351_10 P)).ins 352 (o352_10 P)).ins 353 (o353_10 P)).ins 354 (o354_10 P)).ins 355 (o355_10 P)).ins 356 (o356_10 P)).ins 357 (o357_10 P)).ins 358 (o358_10 P)).ins 359 (o359_10 P)).ins 360 (o360_10 P)).ins 361 (o361_10 P)).ins 362 (o362_10 P)).ins 363 (o363_10 P)).ins 364 (o364_10 P)).ins 365 (o365_10 P)).ins 366 (o366_10 P)).ins 367 (o367_10 P)).ins 368 (o368_10 P)).ins 369 (o369_10 P)).ins 370 (o370_10 P)).ins 371 (o371_10 P)).ins 372 (o372_10 P)).ins 373 (o373_10 P)).ins 374 (o374_10 P)).ins 375 (o375_10 P)).ins 376 (o376_10 P)).ins 377 (o377_10 P)).ins 378 (o378_10 P)).ins 379 (o379_10 P)).ins 380 (o380_10 P)).ins 381 (o381_10 P)).ins 382 (o382_10 P)).ins 383 (o383_10 P)).ins 384 (o384_10 P)).ins 385 (o385_10 P)).ins 386 (o386_10 P)).ins 387 (o387_10 P)).ins 388 (o388_10 P)).ins 389 (o389_10 P)).ins 390 (o390_10 P)).ins 391 (o391_10 P)).ins 392 (o392_10 P)).ins 393 (o393_10 P)).ins 394 (o394_10 P)).ins 395 (o395_10 P)).ins 396 (o396_10 P)).ins 397 (o397_10 P)).ins 398 (o398_10 P)).ins 399 (o399_10 P)).ins 400 (o400_10 P)).ins 401 (o401_10 P)).ins 402 (o402_10 P))
theorem g8 (p : Program) (b : List Stmt) (w : World) (os : OsState) : segRunT treeTable p w 11 (some (.ref 6)) 1 365 (SharedT.mk (T8 w.params) 325 life (Array.mk []) (Drawn.mk 0 0 0 0) 627 os) (piecesOf l8 en (Code.body b en) (Pos.mk 193 0 196 12) BB) = some (Flow.next, (SharedT.mk (T9 w.params) 403 life (Array.mk []) (Drawn.mk 0 0 0 0) 733 os), Code.body b en, (Pos.mk 289 0 308 85)) := by rw [PySem.W.Fast.te10110043849684766642, PySem.W.Fast.te14364793385576792824]; kernel_rfl
def Hf (P : Params) : Heap := Heap.mk (Array.mk [(boot_o_0 P), (boot_o_1 P), (boot_o_2 P), (o3_10 P), (boot_o_4 P), (boot_o_5 P), (boot_o_6 P), (boot_o_7 P), (boot_o_8 P), (boot_o_9 P), (boot_o_10 P), (o11_0 P), (o12_10 P), (o13_0 P), (o14_0 P), (o15_2 P), (o16_2 P), (o17_2 P), (o18_2 P), (o19_2 P), (o20_2 P), (o21_2 P), (o22_2 P), (o23_2 P), (o24_6 P), (o25_2 P), (o26_2 P), (o27_2 P), (o28_3 P), (o29_3 P), (o30_3 P), (o31_3 P), (o32_3 P), (o33_3 P), (o34_3 P), (o35_3 P), (o36_3 P), (o37_3 P), (o38_3 P), (o39_3 P), (o40_4 P), (o41_4 P), (o42_4 P), (o43_4 P), (o44_4 P), (o45_4 P), (o46_4 P), (o47_4 P), (o48_4 P), (o49_4 P), (o50_4 P), (o51_4 P), (o52_5 P), (o53_5 P), (o54_5 P), (o55_5 P), (o56_5 P), (o57_5 P), (o58_5 P), (o59_5 P), (o60_5 P), (o61_5 P), (o62_5 P), (o63_5 P), (o64_6 P), (o65_6 P), (o66_6 P), (o67_6 P), (o68_6 P), (o69_6 P), (o70_6 P), (o71_6 P), (o72_6 P), (o73_6 P), (o74_6 P), (o75_6 P), (o76_6 P), (o77_6 P), (o78_6 P), (o79_6 P), (o80_6 P), (o81_6 P), (o82_6 P), (o83_6 P), (o84_6 P), (o85_6 P), (o86_6 P), (o87_6 P), (o88_6 P), (o89_6 P), (o90_6 P), (o91_6 P), (o92_6 P), (o93_6 P), (o94_6 P), (o95_6 P), (o96_6 P), (o97_6 P), (o98_6 P), (o99_6 P), (o100_6 P), (o101_6 P), (o102_6 P), (o103_6 P), (o104_6 P), (o105_6 P), (o106_6 P), (o107_6 P), (o108_6 P), (o109_6 P), (o110_6 P), (o111_7 P), (o112_7 P), (o113_7 P), (o114_7 P), (o115_7 P), (o116_7 P), (o117_7 P), (o118_7 P), (o119_7 P), (o120_7 P), (o121_7 P), (o122_7 P), (o123_7 P), (o124_7 P), (o125_7 P), (o126_7 P), (o127_7 P), (o128_7 P), (o129_7 P), (o130_7 P), (o131_7 P), (o132_7 P), (o133_7 P), (o134_7 P), (o135_7 P), (o136_7 P), (o137_7 P), (o138_7 P), (o139_7 P), (o140_7 P), (o141_7 P), (o142_7 P), (o143_7 P), (o144_7 P), (o145_7 P), (o146_7 P), (o147_7 P), (o148_7 P), (o149_7 P), (o150_7 P), (o151_7 P), (o152_7 P), (o153_7 P), (o154_7 P), (o155_7 P), (o156_7 P), (o157_7 P), (o158_7 P), (o159_7 P), (o160_7 P), (o161_7 P), (o162_7 P), (o163_7 P), (o164_7 P), (o165_7 P), (o166_7 P), (o167_7 P), (o168_7 P), (o169_8 P), (o170_8 P), (o171_8 P), (o172_8 P), (o173_8 P), (o174_8 P), (o175_8 P), (o176_8 P), (o177_8 P), (o178_8 P), (o179_8 P), (o180_8 P), (o181_8 P), (o182_8 P), (o183_8 P), (o184_8 P), (o185_8 P), (o186_8 P), (o187_8 P), (o188_8 P), (o189_8 P), (o190_8 P), (o191_8 P), (o192_8 P), (o193_8 P), (o194_8 P), (o195_8 P), (o196_8 P), (o197_8 P), (o198_8 P), (o199_8 P), (o200_8 P), (o201_8 P), (o202_8 P), (o203_8 P), (o204_8 P), (o205_8 P), (o206_8 P), (o207_8 P), (o208_8 P), (o209_8 P), (o210_8 P), (o211_8 P), (o212_8 P), (o213_8 P), (o214_8 P), (o215_8 P), (o216_8 P), (o217_8 P), (o218_8 P), (o219_8 P), (o220_8 P), (o221_8 P), (o222_8 P), (o223_8 P), (o224_8 P), (o225_8 P), (o226_8 P), (o227_8 P), (o228_8 P), (o229_8 P), (o230_8 P), (o231_8 P), (o232_8 P), (o233_8 P), (o234_8 P), (o235_8 P), (o236_8 P), (o237_8 P), (o238_8 P), (o239_8 P), (o240_8 P), (o241_8 P), (o242_8 P), (o243_8 P), (o244_8 P), (o245_8 P), (o246_8 P), (o247_8 P), (o248_9 P), (o249_9 P), (o250_9 P), (o251_9 P), (o252_9 P), (o253_9 P), (o254_9 P), (o255_9 P), (o256_9 P), (o257_9 P), (o258_9 P), (o259_9 P), (o260_9 P), (o261_9 P), (o262_9 P), (o263_9 P), (o264_9 P), (o265_9 P), (o266_9 P), (o267_9 P), (o268_9 P), (o269_9 P), (o270_9 P), (o271_9 P), (o272_9 P), (o273_9 P), (o274_9 P), (o275_9 P), (o276_9 P), (o277_9 P), (o278_9 P), (o279_9 P), (o280_9 P), (o281_9 P), (o282_9 P), (o283_9 P), (o284_9 P), (o285_9 P), (o286_9 P), (o287_9 P), (o288_9 P), (o289_9 P), (o290_9 P), (o291_9 P), (o292_9 P), (o293_9 P), (o294_9 P), (o295_9 P), (o296_9 P), (o297_9 P), (o298_9 P), (o299_9 P), (o300_9 P), (o301_9 P), (o302_9 P), (o303_9 P), (o304_9 P), (o305_9 P), (o306_9 P), (o307_9 P), (o308_9 P), (o309_9 P), (o310_9 P), (o311_9 P), (o312_9 P), (o313_9 P), (o314_9 P), (o315_9 P), (o316_9 P), (o317_9 P), (o318_9 P), (o319_9 P), (o320_9 P), (o321_9 P), (o322_9 P), (o323_9 P), (o324_9 P), (o325_10 P), (o326_10 P), (o327_10 P), (o328_10 P), (o329_10 P), (o330_10 P), (o331_10 P), (o332_10 P), (o333_10 P), (o334_10 P), (o335_10 P), (o336_10 P), (o337_10 P), (o338_10 P), (o339_10 P), (o340_10 P), (o341_10 P), (o342_10 P), (o343_10 P), (o344_10 P), (o345_10 P), (o346_10 P), (o347_10 P), (o348_10 P), (o349_10 P), (o350_10 P), (o351_10 P), (o352_10 P), (o353_10 P), (o354_10 P), (o355_10 P), (o356_10 P), (o357_10 P), (o358_10 P), (o359_10 P), (o360_10 P), (o361_10 P), (o362_10 P), (o363_10 P), (o364_10 P), (o365_10 P), (o366_10 P), (o367_10 P), (o368_10 P), (o369_10 P), (o370_10 P), (o371_10 P), (o372_10 P), (o373_10 P), (o374_10 P), (o375_10 P), (o376_10 P), (o377_10 P), (o378_10 P), (o379_10 P), (o380_10 P), (o381_10 P), (o382_10 P), (o383_10 P), (o384_10 P), (o385_10 P), (o386_10 P), (o387_10 P), (o388_10 P), (o389_10 P), (o390_10 P), (o391_10 P), (o392_10 P), (o393_10 P), (o394_10 P), (o395_10 P), (o396_10 P), (o397_10 P), (o398_10 P), (o399_10 P), (o400_10 P), (o401_10 P), (o402_10 P)]) life
theorem fin_ (w : World) (os : OsState) : topRun treeTable pr w 11 (some (.ref 6)) 2 ((SharedT.mk (T9 w.params) 403 life (Array.mk []) (Drawn.mk 0 0 0 0) 733 os).abs) (Thread.mk (doneF .next) cE (Pos.mk 289 0 308 85) BB) = some (Shared.mk (Hf w.params) (Array.mk []) (Drawn.mk 0 0 0 0) 733 os) := by rw [PySem.W.Fast.te14082659384304107361, PySem.W.Fast.te14364793385576792824]; kernel_rfl
abbrev MM : Nat := 12 + (1 + (196 + (214 + (214 + (214 + (398 + (392 + (377 + (381 + (365 + 2))))))))))
theorem run_ (w : World) (os : OsState) : topRun treeTable pr w 11 (some (.ref 6)) MM (Shared.mk (boot_heap w.params) (Array.mk []) boot_drawn boot_toks os) (topStub pr) = some (Shared.mk (Hf w.params) (Array.mk []) (Drawn.mk 0 0 0 0) 733 os) := go_top (pre_ w os) (piece_block (block_ w os) (piece_app (segRun_of (g0 _ _ w os)) (piece_app (segRun_of (g1 _ _ w os)) (piece_app (segRun_of (g2 _ _ w os)) (piece_app (segRun_of (g3 _ _ w os)) (piece_app (segRun_of (g4 _ _ w os)) (piece_app (segRun_of (g5 _ _ w os)) (piece_app (segRun_of (g6 _ _ w os)) (piece_app (segRun_of (g7 _ _ w os)) (piece_app (segRun_of (g8 _ _ w os)) (piece_nil (fin_ w os))))))))))))
def qq : Program := { pr with main := { pr.main with body := [top 1, top 2, top 3, top 4, top 5, top 7, top 9, top 10, top 12, top 13, top 14, top 15, top 16, top 17, top 19, top 20, top 21, top 23, top 24, top 25, top 26, top 27, top 28, top 29, top 30, top 31, top 32, top 34, top 35, top 36, top 37, top 38, top 39, top 40, top 41, top 42, top 43, top 44, top 46, top 47, top 48, top 50, top 52, top 53, top 54, top 55, top 56, top 57, top 58, top 59, top 60, top 61, top 62, top 63, top 64] } }
def loose : List PySem.Str := [Str.ofString "NUMBERS_BEHIND"]
def lv : List (PySem.Str × WData) := []
abbrev NN : Nat := 5610
def KK (P : Params) : Frag := [(2, (boot_o_2 P)), (3, (o3_10 P)), (15, (o15_2 P)), (22, (o22_2 P)), (23, (o23_2 P)), (24, (o24_6 P)), (25, (o25_2 P)), (28, (o28_3 P)), (35, (o35_3 P)), (36, (o36_3 P)), (37, (o37_3 P)), (40, (o40_4 P)), (47, (o47_4 P)), (48, (o48_4 P)), (49, (o49_4 P)), (52, (o52_5 P)), (59, (o59_5 P)), (60, (o60_5 P)), (61, (o61_5 P)), (64, (o64_6 P)), (71, (o71_6 P)), (73, (o73_6 P)), (74, (o74_6 P)), (76, (o76_6 P)), (77, (o77_6 P)), (78, (o78_6 P)), (79, (o79_6 P)), (80, (o80_6 P)), (83, (o83_6 P)), (85, (o85_6 P)), (86, (o86_6 P)), (88, (o88_6 P)), (89, (o89_6 P)), (90, (o90_6 P)), (92, (o92_6 P)), (93, (o93_6 P)), (95, (o95_6 P)), (96, (o96_6 P)), (97, (o97_6 P)), (99, (o99_6 P)), (100, (o100_6 P)), (102, (o102_6 P)), (103, (o103_6 P)), (104, (o104_6 P)), (106, (o106_6 P)), (107, (o107_6 P)), (109, (o109_6 P)), (110, (o110_6 P)), (111, (o111_7 P)), (114, (o114_7 P)), (115, (o115_7 P)), (116, (o116_7 P)), (118, (o118_7 P)), (119, (o119_7 P)), (121, (o121_7 P)), (122, (o122_7 P)), (123, (o123_7 P)), (125, (o125_7 P)), (126, (o126_7 P)), (128, (o128_7 P)), (129, (o129_7 P)), (130, (o130_7 P)), (132, (o132_7 P)), (133, (o133_7 P)), (135, (o135_7 P)), (136, (o136_7 P)), (137, (o137_7 P)), (139, (o139_7 P)), (140, (o140_7 P)), (142, (o142_7 P)), (143, (o143_7 P)), (144, (o144_7 P)), (146, (o146_7 P)), (147, (o147_7 P)), (149, (o149_7 P)), (150, (o150_7 P)), (151, (o151_7 P)), (154, (o154_7 P)), (155, (o155_7 P)), (156, (o156_7 P)), (158, (o158_7 P)), (159, (o159_7 P)), (161, (o161_7 P)), (162, (o162_7 P)), (163, (o163_7 P)), (164, (o164_7 P)), (167, (o167_7 P)), (168, (o168_7 P)), (169, (o169_8 P)), (172, (o172_8 P)), (173, (o173_8 P)), (174, (o174_8 P)), (176, (o176_8 P)), (177, (o177_8 P)), (179, (o179_8 P)), (180, (o180_8 P)), (181, (o181_8 P)), (184, (o184_8 P)), (185, (o185_8 P)), (186, (o186_8 P)), (189, (o189_8 P)), (190, (o190_8 P)), (191, (o191_8 P)), (193, (o193_8 P)), (194, (o194_8 P)), (196, (o196_8 P)), (197, (o197_8 P)), (198, (o198_8 P)), (201, (o201_8 P)), (202, (o202_8 P)), (203, (o203_8 P)), (206, (o206_8 P)), (207, (o207_8 P)), (208, (o208_8 P)), (210, (o210_8 P)), (211, (o211_8 P)), (213, (o213_8 P)), (214, (o214_8 P)), (215, (o215_8 P)), (217, (o217_8 P)), (218, (o218_8 P)), (220, (o220_8 P)), (221, (o221_8 P)), (222, (o222_8 P)), (224, (o224_8 P)), (225, (o225_8 P)), (227, (o227_8 P)), (228, (o228_8 P)), (229, (o229_8 P)), (231, (o231_8 P)), (232, (o232_8 P)), (234, (o234_8 P)), (235, (o235_8 P)), (236, (o236_8 P)), (239, (o239_8 P)), (240, (o240_8 P)), (241, (o241_8 P)), (243, (o243_8 P)), (244, (o244_8 P)), (246, (o246_8 P)), (247, (o247_8 P)), (248, (o248_9 P)), (250, (o250_9 P)), (251, (o251_9 P)), (253, (o253_9 P)), (254, (o254_9 P)), (255, (o255_9 P)), (257, (o257_9 P)), (258, (o258_9 P)), (260, (o260_9 P)), (261, (o261_9 P)), (262, (o262_9 P)), (264, (o264_9 P)), (265, (o265_9 P)), (267, (o267_9 P)), (268, (o268_9 P)), (269, (o269_9 P)), (271, (o271_9 P)), (272, (o272_9 P)), (274, (o274_9 P)), (275, (o275_9 P)), (276, (o276_9 P)), (278, (o278_9 P)), (279, (o279_9 P)), (281, (o281_9 P)), (282, (o282_9 P)), (283, (o283_9 P)), (285, (o285_9 P)), (286, (o286_9 P)), (288, (o288_9 P)), (289, (o289_9 P)), (290, (o290_9 P)), (292, (o292_9 P)), (293, (o293_9 P)), (295, (o295_9 P)), (296, (o296_9 P)), (297, (o297_9 P)), (299, (o299_9 P)), (300, (o300_9 P)), (302, (o302_9 P)), (303, (o303_9 P)), (304, (o304_9 P)), (306, (o306_9 P)), (307, (o307_9 P)), (309, (o309_9 P)), (310, (o310_9 P)), (311, (o311_9 P)), (313, (o313_9 P)), (314, (o314_9 P)), (316, (o316_9 P)), (317, (o317_9 P)), (318, (o318_9 P)), (320, (o320_9 P)), (321, (o321_9 P)), (323, (o323_9 P)), (324, (o324_9 P)), (325, (o325_10 P)), (327, (o327_10 P)), (328, (o328_10 P)), (330, (o330_10 P)), (331, (o331_10 P)), (332, (o332_10 P)), (334, (o334_10 P)), (335, (o335_10 P)), (337, (o337_10 P)), (338, (o338_10 P)), (339, (o339_10 P)), (342, (o342_10 P)), (343, (o343_10 P)), (344, (o344_10 P)), (346, (o346_10 P)), (347, (o347_10 P)), (349, (o349_10 P)), (350, (o350_10 P)), (351, (o351_10 P)), (354, (o354_10 P)), (355, (o355_10 P)), (356, (o356_10 P)), (358, (o358_10 P)), (359, (o359_10 P)), (361, (o361_10 P)), (362, (o362_10 P)), (363, (o363_10 P)), (365, (o365_10 P)), (366, (o366_10 P)), (368, (o368_10 P)), (369, (o369_10 P)), (370, (o370_10 P)), (372, (o372_10 P)), (373, (o373_10 P)), (375, (o375_10 P)), (376, (o376_10 P)), (377, (o377_10 P)), (379, (o379_10 P)), (380, (o380_10 P)), (382, (o382_10 P)), (383, (o383_10 P)), (384, (o384_10 P)), (386, (o386_10 P)), (387, (o387_10 P)), (389, (o389_10 P)), (390, (o390_10 P)), (391, (o391_10 P)), (393, (o393_10 P)), (394, (o394_10 P)), (396, (o396_10 P)), (397, (o397_10 P)), (398, (o398_10 P)), (401, (o401_10 P)), (402, (o402_10 P))]
def aa : List Addr := [2, 3, 15, 22, 23, 24, 25, 28, 35, 36, 37, 40, 47, 48, 49, 52, 59, 60, 61, 64, 71, 73, 74, 76, 77, 78, 79, 80, 83, 85, 86, 88, 89, 90, 92, 93, 95, 96, 97, 99, 100, 102, 103, 104, 106, 107, 109, 110, 111, 114, 115, 116, 118, 119, 121, 122, 123, 125, 126, 128, 129, 130, 132, 133, 135, 136, 137, 139, 140, 142, 143, 144, 146, 147, 149, 150, 151, 154, 155, 156, 158, 159, 161, 162, 163, 164, 167, 168, 169, 172, 173, 174, 176, 177, 179, 180, 181, 184, 185, 186, 189, 190, 191, 193, 194, 196, 197, 198, 201, 202, 203, 206, 207, 208, 210, 211, 213, 214, 215, 217, 218, 220, 221, 222, 224, 225, 227, 228, 229, 231, 232, 234, 235, 236, 239, 240, 241, 243, 244, 246, 247, 248, 250, 251, 253, 254, 255, 257, 258, 260, 261, 262, 264, 265, 267, 268, 269, 271, 272, 274, 275, 276, 278, 279, 281, 282, 283, 285, 286, 288, 289, 290, 292, 293, 295, 296, 297, 299, 300, 302, 303, 304, 306, 307, 309, 310, 311, 313, 314, 316, 317, 318, 320, 321, 323, 324, 325, 327, 328, 330, 331, 332, 334, 335, 337, 338, 339, 342, 343, 344, 346, 347, 349, 350, 351, 354, 355, 356, 358, 359, 361, 362, 363, 365, 366, 368, 369, 370, 372, 373, 375, 376, 377, 379, 380, 382, 383, 384, 386, 387, 389, 390, 391, 393, 394, 396, 397, 398, 401, 402]
theorem open_ : ∀ w : World, (fencedOpening treeTable pr w NN).map (fun s => (s.heap, s.gens, s.drawn, s.toks)) = some (boot_heap w.params, Array.mk [], boot_drawn, boot_toks) :=
  boot_open (p := pr) (N := NN) (by kernel_rfl) (by kernel_rfl) (fun s => by kernel_rfl)
theorem size_ (w : World) : ((boot_heap w.params).isNs mainGlobals && (Array.mk [] : Array GenState).size == 0, (boot_heap w.params).objs.size, (boot_heap w.params).nsMap mainGlobals "__annotations__") = (true, 11, ((some (.ref 6)) : Option Value)) := by kernel_rfl
theorem le_ : Nat.ble MM NN = true := by kernel_rfl
abbrev rr : OpenRow := PySem.Challenge.rw_spinboard_k73_images.row
abbrev HH : Hook := kHook KK aa (fun _ => by kernel_rfl)
abbrev Xt (s : Shared) : Bool := xlAt qq lv s && recOk (RowW.records rr.toRowW) s
abbrev sf (w : World) (os : OsState) : Shared := Shared.mk (Hf w.params) (Array.mk []) (Drawn.mk 0 0 0 0) 733 os
theorem lk1 (w : World) (os : OsState) : (staticsOk (importedModules pr.main.body) (boot_heap w.params) (Hf w.params) && namesBound pr (Hf w.params) && gensDone (sf w os) && laidKept (boot_heap w.params) (Hf w.params)) = true := by rw [PySem.W.Fast.te5923862056798008813]; kernel_rfl
theorem lk2 (w : World) (os : OsState) : openSeen qq loose (importedModules pr.main.body) Xt true (sf w os) = openGood qq loose := by rw [PySem.W.Fast.te4187177175401517315, PySem.W.Fast.te5923862056798008813]; kernel_rfl
theorem lk3 (w : World) (os : OsState) : HH.obs (sf w os) = HH.val w := by kernel_rfl
theorem left_ : LeftO pr qq loose Xt HH.obs HH.val NN :=
  LeftO.of_pieces (H₀ := boot_heap) (H₁ := Hf) open_ size_ run_ le_ fun w => funext fun os => looks_pair (lk1 w os) (looks_pair (lk2 w os) (lk3 w os))
theorem said_ : PySem.Challenge.rw_spinboard_k73_images.wellSaid = true := by rw [PySem.W.Fast.te9446332074065402090]; kernel_rfl
theorem k402 (P : Params) : (KK P).lookup 402 = some (o402_10 P) := by kernel_rfl
theorem k89 (P : Params) : (KK P).lookup 89 = some (o89_6 P) := by kernel_rfl
theorem k96 (P : Params) : (KK P).lookup 96 = some (o96_6 P) := by kernel_rfl
theorem k103 (P : Params) : (KK P).lookup 103 = some (o103_6 P) := by kernel_rfl
theorem k110 (P : Params) : (KK P).lookup 110 = some (o110_6 P) := by kernel_rfl
theorem k115 (P : Params) : (KK P).lookup 115 = some (o115_7 P) := by kernel_rfl
theorem k122 (P : Params) : (KK P).lookup 122 = some (o122_7 P) := by kernel_rfl
theorem k129 (P : Params) : (KK P).lookup 129 = some (o129_7 P) := by kernel_rfl
theorem k136 (P : Params) : (KK P).lookup 136 = some (o136_7 P) := by kernel_rfl
theorem k143 (P : Params) : (KK P).lookup 143 = some (o143_7 P) := by kernel_rfl
theorem k150 (P : Params) : (KK P).lookup 150 = some (o150_7 P) := by kernel_rfl
theorem k155 (P : Params) : (KK P).lookup 155 = some (o155_7 P) := by kernel_rfl
theorem k162 (P : Params) : (KK P).lookup 162 = some (o162_7 P) := by kernel_rfl
theorem k168 (P : Params) : (KK P).lookup 168 = some (o168_7 P) := by kernel_rfl
theorem k173 (P : Params) : (KK P).lookup 173 = some (o173_8 P) := by kernel_rfl
theorem k180 (P : Params) : (KK P).lookup 180 = some (o180_8 P) := by kernel_rfl
theorem k185 (P : Params) : (KK P).lookup 185 = some (o185_8 P) := by kernel_rfl
theorem k190 (P : Params) : (KK P).lookup 190 = some (o190_8 P) := by kernel_rfl
theorem k197 (P : Params) : (KK P).lookup 197 = some (o197_8 P) := by kernel_rfl
theorem k202 (P : Params) : (KK P).lookup 202 = some (o202_8 P) := by kernel_rfl
theorem k207 (P : Params) : (KK P).lookup 207 = some (o207_8 P) := by kernel_rfl
theorem k214 (P : Params) : (KK P).lookup 214 = some (o214_8 P) := by kernel_rfl
theorem k221 (P : Params) : (KK P).lookup 221 = some (o221_8 P) := by kernel_rfl
theorem k228 (P : Params) : (KK P).lookup 228 = some (o228_8 P) := by kernel_rfl
theorem k235 (P : Params) : (KK P).lookup 235 = some (o235_8 P) := by kernel_rfl
theorem k240 (P : Params) : (KK P).lookup 240 = some (o240_8 P) := by kernel_rfl
theorem k247 (P : Params) : (KK P).lookup 247 = some (o247_8 P) := by kernel_rfl
theorem k254 (P : Params) : (KK P).lookup 254 = some (o254_9 P) := by kernel_rfl
theorem k261 (P : Params) : (KK P).lookup 261 = some (o261_9 P) := by kernel_rfl
theorem k268 (P : Params) : (KK P).lookup 268 = some (o268_9 P) := by kernel_rfl
theorem k275 (P : Params) : (KK P).lookup 275 = some (o275_9 P) := by kernel_rfl
theorem k282 (P : Params) : (KK P).lookup 282 = some (o282_9 P) := by kernel_rfl
theorem k289 (P : Params) : (KK P).lookup 289 = some (o289_9 P) := by kernel_rfl
theorem k296 (P : Params) : (KK P).lookup 296 = some (o296_9 P) := by kernel_rfl
theorem k303 (P : Params) : (KK P).lookup 303 = some (o303_9 P) := by kernel_rfl
theorem k310 (P : Params) : (KK P).lookup 310 = some (o310_9 P) := by kernel_rfl
theorem k317 (P : Params) : (KK P).lookup 317 = some (o317_9 P) := by kernel_rfl
theorem k324 (P : Params) : (KK P).lookup 324 = some (o324_9 P) := by kernel_rfl
theorem k331 (P : Params) : (KK P).lookup 331 = some (o331_10 P) := by kernel_rfl
theorem k338 (P : Params) : (KK P).lookup 338 = some (o338_10 P) := by kernel_rfl
theorem k343 (P : Params) : (KK P).lookup 343 = some (o343_10 P) := by kernel_rfl
theorem k350 (P : Params) : (KK P).lookup 350 = some (o350_10 P) := by kernel_rfl
theorem k355 (P : Params) : (KK P).lookup 355 = some (o355_10 P) := by kernel_rfl
theorem k362 (P : Params) : (KK P).lookup 362 = some (o362_10 P) := by kernel_rfl
theorem k369 (P : Params) : (KK P).lookup 369 = some (o369_10 P) := by kernel_rfl
theorem k376 (P : Params) : (KK P).lookup 376 = some (o376_10 P) := by kernel_rfl
theorem k383 (P : Params) : (KK P).lookup 383 = some (o383_10 P) := by kernel_rfl
theorem k390 (P : Params) : (KK P).lookup 390 = some (o390_10 P) := by kernel_rfl
theorem k397 (P : Params) : (KK P).lookup 397 = some (o397_10 P) := by kernel_rfl
theorem k80 (P : Params) : (KK P).lookup 80 = some (o80_6 P) := by kernel_rfl
theorem k77 (P : Params) : (KK P).lookup 77 = some (o77_6 P) := by kernel_rfl
theorem k24 (P : Params) : (KK P).lookup 24 = some (o24_6 P) := by kernel_rfl
theorem k163 (P : Params) : (KK P).lookup 163 = some (o163_7 P) := by kernel_rfl
theorem f7 (P : Params) : FunAt (KK P) "is_whole" (top 7) .none := fat (f := 89) (by kernel_rfl) (k89 P) (by kernel_rfl) (by kernel_rfl)
theorem f9 (P : Params) : FunAt (KK P) "ones" (top 9) .none := fat (f := 96) (by kernel_rfl) (k96 P) (by kernel_rfl) (by kernel_rfl)
theorem f10 (P : Params) : FunAt (KK P) "turned_about" (top 10) .none := fat (f := 103) (by kernel_rfl) (k103 P) (by kernel_rfl) (by kernel_rfl)
theorem f12 (P : Params) : FunAt (KK P) "halved_out" (top 12) .none := fat (f := 110) (by kernel_rfl) (k110 P) (by kernel_rfl) (by kernel_rfl)
theorem f13 (P : Params) : FunAt (KK P) "plus" (top 13) .none := fat (f := 115) (by kernel_rfl) (k115 P) (by kernel_rfl) (by kernel_rfl)
theorem f14 (P : Params) : FunAt (KK P) "minus" (top 14) .none := fat (f := 122) (by kernel_rfl) (k122 P) (by kernel_rfl) (by kernel_rfl)
theorem f15 (P : Params) : FunAt (KK P) "spun" (top 15) .none := fat (f := 129) (by kernel_rfl) (k129 P) (by kernel_rfl) (by kernel_rfl)
theorem f16 (P : Params) : FunAt (KK P) "spun_once" (top 16) .none := fat (f := 136) (by kernel_rfl) (k136 P) (by kernel_rfl) (by kernel_rfl)
theorem f17 (P : Params) : FunAt (KK P) "rooted" (top 17) .none := fat (f := 143) (by kernel_rfl) (k143 P) (by kernel_rfl) (by kernel_rfl)
theorem f19 (P : Params) : FunAt (KK P) "cells_of" (top 19) .none := fat (f := 150) (by kernel_rfl) (k150 P) (by kernel_rfl) (by kernel_rfl)
theorem f20 (P : Params) : FunAt (KK P) "laid_on" (top 20) .none := fat (f := 155) (by kernel_rfl) (k155 P) (by kernel_rfl) (by kernel_rfl)
theorem f21 (P : Params) : FunAt (KK P) "spun_by_mark" (top 21) .none := fat (f := 162) (by kernel_rfl) (k162 P) (by kernel_rfl) (by kernel_rfl)
theorem f24 (P : Params) : FunAt (KK P) "check_move" (top 24) .none := fat (f := 168) (by kernel_rfl) (k168 P) (by kernel_rfl) (by kernel_rfl)
theorem f25 (P : Params) : FunAt (KK P) "has_move_form" (top 25) .none := fat (f := 173) (by kernel_rfl) (k173 P) (by kernel_rfl) (by kernel_rfl)
theorem f26 (P : Params) : FunAt (KK P) "named_cells" (top 26) .none := fat (f := 180) (by kernel_rfl) (k180 P) (by kernel_rfl) (by kernel_rfl)
theorem f27 (P : Params) : FunAt (KK P) "turned" (top 27) .none := fat (f := 185) (by kernel_rfl) (k185 P) (by kernel_rfl) (by kernel_rfl)
theorem f28 (P : Params) : FunAt (KK P) "mixed" (top 28) .none := fat (f := 190) (by kernel_rfl) (k190 P) (by kernel_rfl) (by kernel_rfl)
theorem f29 (P : Params) : FunAt (KK P) "mixed_at" (top 29) .none := fat (f := 197) (by kernel_rfl) (k197 P) (by kernel_rfl) (by kernel_rfl)
theorem f30 (P : Params) : FunAt (KK P) "spun_where" (top 30) .none := fat (f := 202) (by kernel_rfl) (k202 P) (by kernel_rfl) (by kernel_rfl)
theorem f31 (P : Params) : FunAt (KK P) "word_behind" (top 31) .none := fat (f := 207) (by kernel_rfl) (k207 P) (by kernel_rfl) (by kernel_rfl)
theorem f32 (P : Params) : FunAt (KK P) "exchanged" (top 32) .none := fat (f := 214) (by kernel_rfl) (k214 P) (by kernel_rfl) (by kernel_rfl)
theorem f34 (P : Params) : FunAt (KK P) "borne" (top 34) .none := fat (f := 221) (by kernel_rfl) (k221 P) (by kernel_rfl) (by kernel_rfl)
theorem f35 (P : Params) : FunAt (KK P) "is_borne" (top 35) .none := fat (f := 228) (by kernel_rfl) (k228 P) (by kernel_rfl) (by kernel_rfl)
theorem f36 (P : Params) : FunAt (KK P) "is_odd_turn" (top 36) .none := fat (f := 235) (by kernel_rfl) (k235 P) (by kernel_rfl) (by kernel_rfl)
theorem f37 (P : Params) : FunAt (KK P) "moved_rows" (top 37) .none := fat (f := 240) (by kernel_rfl) (k240 P) (by kernel_rfl) (by kernel_rfl)
theorem f38 (P : Params) : FunAt (KK P) "check_borne" (top 38) .none := fat (f := 247) (by kernel_rfl) (k247 P) (by kernel_rfl) (by kernel_rfl)
theorem f39 (P : Params) : FunAt (KK P) "moved_through" (top 39) .none := fat (f := 254) (by kernel_rfl) (k254 P) (by kernel_rfl) (by kernel_rfl)
theorem f40 (P : Params) : FunAt (KK P) "moved_by" (top 40) .none := fat (f := 261) (by kernel_rfl) (k261 P) (by kernel_rfl) (by kernel_rfl)
theorem f41 (P : Params) : FunAt (KK P) "moved_by_mix" (top 41) .none := fat (f := 268) (by kernel_rfl) (k268 P) (by kernel_rfl) (by kernel_rfl)
theorem f42 (P : Params) : FunAt (KK P) "moved_by_turn" (top 42) .none := fat (f := 275) (by kernel_rfl) (k275 P) (by kernel_rfl) (by kernel_rfl)
theorem f43 (P : Params) : FunAt (KK P) "moved_by_if" (top 43) .none := fat (f := 282) (by kernel_rfl) (k282 P) (by kernel_rfl) (by kernel_rfl)
theorem f44 (P : Params) : FunAt (KK P) "moved_by_pair" (top 44) .none := fat (f := 289) (by kernel_rfl) (k289 P) (by kernel_rfl) (by kernel_rfl)
theorem f46 (P : Params) : FunAt (KK P) "images" (top 46) .none := fat (f := 296) (by kernel_rfl) (k296 P) (by kernel_rfl) (by kernel_rfl)
theorem f47 (P : Params) : FunAt (KK P) "plain_marks" (top 47) .none := fat (f := 303) (by kernel_rfl) (k303 P) (by kernel_rfl) (by kernel_rfl)
theorem f48 (P : Params) : FunAt (KK P) "unlike" (top 48) .none := fat (f := 310) (by kernel_rfl) (k310 P) (by kernel_rfl) (by kernel_rfl)
theorem f50 (P : Params) : FunAt (KK P) "run" (top 50) .none := fat (f := 317) (by kernel_rfl) (k317 P) (by kernel_rfl) (by kernel_rfl)
theorem f52 (P : Params) : FunAt (KK P) "_law_cell_at" (top 52) .none := fat (f := 324) (by kernel_rfl) (k324 P) (by kernel_rfl) (by kernel_rfl)
theorem f53 (P : Params) : FunAt (KK P) "_law_whole" (top 53) .none := fat (f := 331) (by kernel_rfl) (k331 P) (by kernel_rfl) (by kernel_rfl)
theorem f54 (P : Params) : FunAt (KK P) "_law_number" (top 54) .none := fat (f := 338) (by kernel_rfl) (k338 P) (by kernel_rfl) (by kernel_rfl)
theorem f55 (P : Params) : FunAt (KK P) "_law_lowest" (top 55) .none := fat (f := 343) (by kernel_rfl) (k343 P) (by kernel_rfl) (by kernel_rfl)
theorem f56 (P : Params) : FunAt (KK P) "_law_amount" (top 56) .none := fat (f := 350) (by kernel_rfl) (k350 P) (by kernel_rfl) (by kernel_rfl)
theorem f57 (P : Params) : FunAt (KK P) "_law_board" (top 57) .none := fat (f := 355) (by kernel_rfl) (k355 P) (by kernel_rfl) (by kernel_rfl)
theorem f58 (P : Params) : FunAt (KK P) "_law_move" (top 58) .none := fat (f := 362) (by kernel_rfl) (k362 P) (by kernel_rfl) (by kernel_rfl)
theorem f59 (P : Params) : FunAt (KK P) "_law_back" (top 59) .none := fat (f := 369) (by kernel_rfl) (k369 P) (by kernel_rfl) (by kernel_rfl)
theorem f60 (P : Params) : FunAt (KK P) "_law_foreign" (top 60) .none := fat (f := 376) (by kernel_rfl) (k376 P) (by kernel_rfl) (by kernel_rfl)
theorem f61 (P : Params) : FunAt (KK P) "_law_is_mark" (top 61) .none := fat (f := 383) (by kernel_rfl) (k383 P) (by kernel_rfl) (by kernel_rfl)
theorem f62 (P : Params) : FunAt (KK P) "_law_refused_at" (top 62) .none := fat (f := 390) (by kernel_rfl) (k390 P) (by kernel_rfl) (by kernel_rfl)
theorem f63 (P : Params) : FunAt (KK P) "_law_images_are" (top 63) .none := fat (f := 397) (by kernel_rfl) (k397 P) (by kernel_rfl) (by kernel_rfl)
end Hd
end K73
open PySem PySem.W PyProof.Rows
set_option maxRecDepth 100000 in
set_option maxHeartbeats 0 in
theorem PySem.Challenge.cw_spinboard_k73_images_holds : PySem.Challenge.rw_spinboard_k73_images.Holds := by
  refine holds_law K73.Hd.said_ fun said => ?_
  refine holds_open (q := K73.Hd.qq) (loose := K73.Hd.loose) (Xt := K73.Hd.Xt) (XP := XL K73.Hd.qq K73.Hd.lv) (Yf := K73.Hd.HH.obs) (Ya := K73.Hd.HH.val) (YP := K73.Hd.HH.says) (d := ⟨"law", L2.defArgs (K73.top 64), L2.defBody (K73.top 64), L2.defScope (K73.top 64), K73.Hd.dPos (K73.top 64)⟩) (kwd := []) (N := K73.Hd.NN) K73.Hd.left_ K73.Hd.HH.of K73.Hd.HH.keeps (fun s e => xl_of s (Bool.and_eq_true_iff.mp e).1) XL.keeps (by kernel_rfl) (by kernel_rfl) (by kernel_rfl) (fun s e => recFacts_of (Bool.and_eq_true_iff.mp e).2) (by kernel_rfl) said (by kernel_rfl) ⟨rfl, rfl, rfl, rfl, rfl, by decide +kernel⟩ ?hw ?hc
  case hw => w_witness2
  refine K73.walk (l := PySem.Challenge.rw_spinboard_k73_images) rfl rfl (fun w h Y => PySem.W.kIn_of Y) ?F
  case F =>
    intro w mg fa h KX G hmg
    refine' K73.all_mk (K := K73.Hd.KK w.params) (f := 402) (C := 80) (D := 24) (fi := 77) (aN := 163) (A_NoCell := 49) (A_NoMove := 37) (A_NoTable := 61) KX G hmg ?aL (K73.Hd.k402 _) ?cL ?kL (K73.Hd.f7 _) (K73.Hd.f9 _) (K73.Hd.f10 _) (K73.Hd.f12 _) (K73.Hd.f13 _) (K73.Hd.f14 _) (K73.Hd.f15 _) (K73.Hd.f16 _) (K73.Hd.f17 _) (K73.Hd.f19 _) (K73.Hd.f20 _) (K73.Hd.f21 _) (K73.Hd.f24 _) (K73.Hd.f25 _) (K73.Hd.f26 _) (K73.Hd.f27 _) (K73.Hd.f28 _) (K73.Hd.f29 _) (K73.Hd.f30 _) (K73.Hd.f31 _) (K73.Hd.f32 _) (K73.Hd.f34 _) (K73.Hd.f35 _) (K73.Hd.f36 _) (K73.Hd.f37 _) (K73.Hd.f38 _) (K73.Hd.f39 _) (K73.Hd.f40 _) (K73.Hd.f41 _) (K73.Hd.f42 _) (K73.Hd.f43 _) (K73.Hd.f44 _) (K73.Hd.f46 _) (K73.Hd.f47 _) (K73.Hd.f48 _) (K73.Hd.f50 _) (K73.Hd.f52 _) (K73.Hd.f53 _) (K73.Hd.f54 _) (K73.Hd.f55 _) (K73.Hd.f56 _) (K73.Hd.f57 _) (K73.Hd.f58 _) (K73.Hd.f59 _) (K73.Hd.f60 _) (K73.Hd.f61 _) (K73.Hd.f62 _) (K73.Hd.f63 _) ?z0 ?z1 ?z2 ?z3 ?z4 ?z5 ?z6 ?z7 ?z8 ?z9 ?z10 ?z11 ?z12 ?z13 ?z14 ?z15 ?gN0 ?tN ?nN0 ?aC ?aD ?zV (L2.initAt ?i1 ?i2 ?i3 ?i4 ?i5 ?i6 ?i7 ?i8 ?i9 ⟨?e1, ?e2, ?e3, ?e4, ?e5, ?e6, ?e7⟩) ?na (L2.excAt ?xd1 ?xd2 ?xd3 ?xd4) ?sub ?own ?ve ?n_NoCell ?q_NoCell ?n_NoMove ?q_NoMove ?n_NoTable ?q_NoTable
    (case aL => kernel_rfl); (case cL => kernel_rfl); (case kL => kernel_rfl)
    (case z0 => kernel_rfl); (case z1 => kernel_rfl); (case z2 => kernel_rfl); (case z3 => kernel_rfl); (case z4 => kernel_rfl); (case z5 => kernel_rfl); (case z6 => kernel_rfl); (case z7 => kernel_rfl); (case z8 => kernel_rfl); (case z9 => kernel_rfl); (case z10 => kernel_rfl); (case z11 => kernel_rfl); (case z12 => kernel_rfl); (case z13 => kernel_rfl); (case z14 => kernel_rfl); (case z15 => kernel_rfl)
    (case gN0 => kernel_rfl); (case tN => exact K73.Hd.k163 _); (case nN0 => decide)
    (case aC => kernel_rfl); (case aD => kernel_rfl); (case zV => kernel_rfl)
    (case i1 => exact K73.Hd.k80 _); (case i2 => kernel_rfl); (case i3 => kernel_rfl); (case i4 => kernel_rfl)
    (case i5 => exact K73.Hd.k77 _); (case i6 => kernel_rfl); (case i7 => kernel_rfl); (case i8 => kernel_rfl); (case i9 => kernel_rfl)
    (case e1 => kernel_rfl); (case e2 => kernel_rfl); (case e3 => (intro od; kernel_rfl)); (case e4 => kernel_rfl); (case e5 => kernel_rfl); (case e6 => kernel_rfl); (case e7 => kernel_rfl)
    (case na => (unfold L2.NoAttr; kernel_rfl))
    (case xd1 => exact K73.Hd.k24 _); (case xd2 => kernel_rfl); (case xd3 => kernel_rfl); (case xd4 => kernel_rfl)
    (case sub => kernel_rfl)
    (case own => kernel_rfl); (case ve => kernel_rfl)
    (case n_NoCell => kernel_rfl); (case q_NoCell => kernel_rfl)
    (case n_NoMove => kernel_rfl); (case q_NoMove => kernel_rfl)
    (case n_NoTable => kernel_rfl); (case q_NoTable => kernel_rfl)

