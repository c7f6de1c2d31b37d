import PyProof.Rows.All
import Wide.All
import OpenK.AllK
import Wide.FinOn
import Lean
import PyProof.EqAt
import PyProof.EqKinds
import PyProof.TupleCall
import PyProof.Rows.BitMore
import PyProof.ConsumeWalk
import PyProof.EnumMake
import PyProof.Rows.EnumRows
import PyProof.Rows.SortWalk
import PyProof.Rows.TupDisplay
import PyProof.SumAny
import PySem.Challenge.RW_spinboard_k53_reduced
-- CHANGE: your row's module here, as the last of these rows
set_option Elab.async false
set_option linter.all false
set_option maxRecDepth 100000
/-! THE HAND LAYER, for ints, bools, texts, own classes, LISTS and tuples (index, slices, in, append, pop ..), calls, loops. Paste it whole ahead of your own text; what your proof does not reach may be deleted. -/
namespace L2
open PySem PySem.Spec PyProof.Rows

abbrev Key := Sum Int Str
def keyIs : Key → Value → Bool
  | .inl k, v => Value.isInt k v
  | .inr x, v => Value.isStrOf x v
def keyH (w : World) : Key → Int
  | .inl k => hashInt k
  | .inr x => hashStr w x
theorem keyIs_shape : ∀ {k : Key} {v : Value}, keyIs k v = true → (∃ i t, k = Sum.inl i ∧ v = Value.int i t) ∨ (∃ x t, k = Sum.inr x ∧ v = Value.str x t)
  | .inl i, v, h => by
    obtain ⟨t, e⟩ := Value.isInt_shape (k := i) (v := v) h
    exact .inl ⟨i, t, rfl, e⟩
  | .inr x, v, h => by
    obtain ⟨t, e⟩ := Value.isStrOf_shape (x := x) (v := v) h
    exact .inr ⟨x, t, rfl, e⟩
theorem keyIs_int (i : Int) (t : Tok) : keyIs (.inl i) (.int i t) = true := by simp [keyIs, Value.isInt]
theorem keyIs_str (x : Str) (t : Tok) : keyIs (.inr x) (.str x t) = true := by simp [keyIs, Value.isStrOf]
theorem key_ll (a b : Int) : decide ((Sum.inl a : Key) = Sum.inl b) = (a == b) := by
  by_cases e : a = b
  · subst e; simp
  · have h : ¬ (Sum.inl a : Key) = Sum.inl b := fun q => e (Sum.inl.inj q)
    rw [decide_eq_false h]
    exact (beq_eq_false_iff_ne.mpr e).symm
theorem key_rr (a b : Str) : decide ((Sum.inr a : Key) = Sum.inr b) = decide (a = b) := by
  by_cases e : a = b
  · subst e; simp
  · have h : ¬ (Sum.inr a : Key) = Sum.inr b := fun q => e (Sum.inr.inj q)
    rw [decide_eq_false h, decide_eq_false e]
theorem key_lr (a : Int) (b : Str) : decide ((Sum.inl a : Key) = Sum.inr b) = false := decide_eq_false (fun q => nomatch q)
theorem key_rl (a : Str) (b : Int) : decide ((Sum.inr a : Key) = Sum.inl b) = false := decide_eq_false (fun q => nomatch q)

def mixKind (prog : Program) (w : World) : PySem.KeyKind prog w Key where
  is := keyIs
  hash := keyH w
  inj := fun v a b ha hb => by
    rcases keyIs_shape ha with ⟨i, t, rfl, rfl⟩ | ⟨x, t, rfl, rfl⟩
    · rcases keyIs_shape hb with ⟨j, u, rfl, e⟩ | ⟨y, u, rfl, e⟩
      · injection e with e1 _; rw [e1]
      · exact nomatch e
    · rcases keyIs_shape hb with ⟨j, u, rfl, e⟩ | ⟨y, u, rfl, e⟩
      · exact nomatch e
      · injection e with e1 _; rw [e1]
  byValue := fun k v h => by
    rcases keyIs_shape h with ⟨i, t, rfl, rfl⟩ | ⟨x, t, rfl, rfl⟩ <;> rfl
  pyHash := fun hv h => by
    rcases keyIs_shape hv with ⟨i, t, rfl, rfl⟩ | ⟨x, t, rfl, rfl⟩
    · exact wpAny_pyHash_int h
    · exact wpAny_pyHash_str h
  eqBool := fun hu hv h => by
    rcases keyIs_shape hu with ⟨i, t, rfl, rfl⟩ | ⟨x, t, rfl, rfl⟩
    · rcases keyIs_shape hv with ⟨j, u, rfl, rfl⟩ | ⟨y, u, rfl, rfl⟩
      · rw [key_ll] at h; exact wpAny_eqBool_int h
      · rw [key_lr] at h; exact SeqAt.EqAt.int_str i t y u _ _ _ _ h
    · rcases keyIs_shape hv with ⟨j, u, rfl, rfl⟩ | ⟨y, u, rfl, rfl⟩
      · rw [key_rl] at h; exact SeqAt.EqAt.str_int x t j u _ _ _ _ h
      · rw [key_rr] at h; exact wpAny_eqBool_str h
  «strs» := fun k x t v h => by
    rcases keyIs_shape h with ⟨i, u, rfl, e⟩ | ⟨y, u, rfl, e⟩
    · exact nomatch e
    · injection e with e1 _
      subst e1
      cases v <;> rfl

theorem mixKind_int (prog : Program) (w : World) (i : Int) (t : Tok) : (mixKind prog w).is (.inl i) (.int i t) = true := keyIs_int i t
theorem mixKind_str (prog : Program) (w : World) (x : Str) (t : Tok) : (mixKind prog w).is (.inr x) (.str x t) = true := keyIs_str x t
end L2

namespace L2
open PySem PySem.Spec PyProof.Rows

inductive V where
  | non | bl (b : Bool) | int (i : Int) | str (x : Str) | byt (b : Array UInt8) | flt (b : UInt64) | ref (a : Addr) | ty (n : String)
  deriving DecidableEq

def RelV : V → Value → Prop
  | .non, u => u = Value.none
  | .bl b, u => u = Value.bool b
  | .int i, u => ∃ t, u = Value.int i t
  | .str x, u => ∃ t, u = Value.str x t
  | .byt b, u => ∃ t, u = Value.bytes b t
  | .flt b, u => ∃ t, u = Value.float b t
  | .ref a, u => u = Value.ref a
  | .ty n, u => u = Value.type n

abbrev Vals : List V → List Value → Prop := Paired RelV
theorem Vals.length {xs : List V} {us : List Value} (r : Vals xs us) : xs.length = us.length := Paired.length r
theorem Vals.get : ∀ {xs : List V} {us : List Value} {i : Nat} {x : V}, Vals xs us → xs[i]? = some x → ∃ u, us[i]? = some u ∧ RelV x u
  | _, _, _, _, .nil, e => by simp at e
  | _, _, 0, _, .cons r _, e => by simp at e; subst e; exact ⟨_, rfl, r⟩
  | _, _, i + 1, x, .cons _ t, e => by
    obtain ⟨u, h1, h2⟩ := Vals.get (i := i) (x := x) t (by simpa using e)
    exact ⟨u, by simpa using h1, h2⟩
theorem Vals.set {x : V} {u : Value} (r : RelV x u) : ∀ {xs : List V} {us : List Value} (i : Nat), Vals xs us → Vals (xs.set i x) (us.set i u)
  | _, _, _, .nil => .nil
  | _, _, 0, .cons _ t => .cons r t
  | _, _, i + 1, .cons q t => .cons q (Vals.set r i t)
theorem Vals.append : ∀ {xs ys : List V} {us ws : List Value}, Vals xs us → Vals ys ws → Vals (xs ++ ys) (us ++ ws)
  | _, _, _, _, .nil, s => s
  | _, _, _, _, .cons r t, s => .cons r (Vals.append t s)
theorem Vals.take : ∀ {xs : List V} {us : List Value} (n : Nat), Vals xs us → Vals (xs.take n) (us.take n)
  | _, _, 0, _ => .nil
  | _, _, _ + 1, .nil => .nil
  | _, _, n + 1, .cons r t => .cons r (Vals.take n t)
theorem Vals.drop : ∀ {xs : List V} {us : List Value} (n : Nat), Vals xs us → Vals (xs.drop n) (us.drop n)
  | _, _, 0, r => r
  | _, _, _ + 1, .nil => .nil
  | _, _, n + 1, .cons _ t => Vals.drop n t
def RelO : Option V → Option Value → Prop
  | some v, some u => RelV v u
  | none, none => True
  | _, _ => False
def KV {κ : Type} : List (κ × V) → List (κ × Value) → Prop := Paired fun (p : κ × V) (q : κ × Value) => p.1 = q.1 ∧ RelV p.2 q.2

def kV : Key → V
  | .inl i => .int i
  | .inr x => .str x

inductive HO where
  /-- a list -/
  | lst (xs : List V)
  /-- a tuple (never changes) -/
  | tup (xs : List V)
  /-- a dict whose keys are ints and texts; one whose keys are tuples of ints and texts (the empty one is both) -/
  | dK (kvs : List (Key × V)) | dT (kvs : List (List Key × V))
  /-- a set of ints: its members, its size -/
  | set (S : Int → Bool) (n : Nat)
  /-- an instance of the class at C, its dict at dx, its attributes -/
  | ins (C dx : Addr) (fs : List (Str × V))
  /-- the dict of the instance at x -/
  | own (x : Addr)
  /-- the dict of an exception -/
  | xd (fs : List (Str × V))
  /-- a bound method, f of x -/
  | met (f x : Addr)
  /-- a range object lo, lo + 1, .. below hi -/
  | rng (lo hi : Int)
  /-- a thing that is known to the object (the script; a dict while a loop walks it): read, never written while it is so -/
  | frz (o : Obj) (u : HO)
  /-- a code object's table -/
  | tbl (ps : Array Value)
  /-- any other thing, by what is true of its one object (a def of one's own: SetO a S n := HO.ext fun h => ..) -/
  | ext (φ : Heap → Prop)

abbrev Hp := Addr → Option HO
def upd (H : Hp) (a : Addr) (o : HO) : Hp := fun b => if b = a then some o else H b
theorem upd_same {H : Hp} {a : Addr} {o : HO} : upd H a o a = some o := by unfold upd; rw [if_pos rfl]
theorem upd_ne {H : Hp} {a b : Addr} {o : HO} (h : b ≠ a) : upd H a o b = H b := by unfold upd; rw [if_neg h]
theorem ne_of {H : Hp} {a b : Addr} {o u : HO} (h : H a = some o) (h' : H b = some u) (d : o ≠ u) : a ≠ b := by
  intro e; subst e; rw [h] at h'; exact d (Option.some.inj h')
theorem ne_of_none {H : Hp} {a b : Addr} {o : HO} (h : H a = some o) (h' : H b = none) : a ≠ b := by
  intro e; subst e; rw [h] at h'; cases h'

section
variable (P : Program) (w : World)
def ObjOk (H : Hp) (h : Heap) (a : Addr) : HO → Prop
  | .lst xs => xs.length ≤ sizeLine ∧ ∃ (its : List Value) (n : Nat), Vals xs its ∧ h.get? a = some { cls := .type "list", data := .seq its.toArray n }
  | .tup xs => xs.length ≤ sizeLine ∧ ∃ its : List Value, Vals xs its ∧ IsTup h a its.toArray
  | .dK kvs => kvs.length ≤ sizeLine ∧ (a == sysModules) = false ∧ ∃ vs, KV kvs vs ∧ h.DictOf (mixKind P w) a vs
  | .dT kvs => kvs.length ≤ sizeLine ∧ (a == sysModules) = false ∧ ∃ xs : List (List Key × Addr × Value),
      Paired (fun (p : List Key × V) (q : List Key × Addr × Value) => p.1 = q.1 ∧ H q.2.1 = some (.tup (p.1.map kV)) ∧ RelV p.2 q.2.2) kvs xs ∧
      ∃ o es ep, h.get? a = some o ∧ o.ExactDict ∧ o.data = .dict es ep ∧ es.toList = xs.map (entryOfKey (tupleKind (mixKind P w))) ∧ (xs.map (·.1)).Nodup
  | .set S n => h.SetOf (intKind P w) a S n
  | .ins C dx fs => H dx = some (.own a) ∧ fs.length ≤ 1000 ∧ dx ≠ a ∧ h.get? a = some (PySem.W.instObj C dx) ∧
      ∃ mA, h.Ns1 dx mA ∧ (∀ f, RelO (fs.lookup f) (mA f)) ∧ PySem.Within mA (fs.map (·.1))
  | .own _ => ∃ o, h.get? a = some o
  | .xd fs => ∃ mA, h.Ns1 a mA ∧ ∀ f, RelO (fs.lookup f) (mA f)
  | .rng lo hi => ∃ t u v, h.get? a = some { cls := .type "range", data := .fields #[.int lo t, .int hi u, .int 1 v] }
  | .frz o u => h.get? a = some o ∧ ObjOk H h a u
  | .tbl ps => h.get? a = some { cls := .none, data := .fields ps }
  | .met f x => h.get? a = some (PySem.W.methodObj (.ref f) (.ref x))
  | .ext φ => φ h ∧ (∃ o, h.get? a = some o) ∧ ∀ h1 h2 : Heap, φ h1 → (∀ o, h1.get? a = some o → h2.get? a = some o) → φ h2
def HOk (H : Hp) (h : Heap) : Prop := ∀ a o, H a = some o → ObjOk P w H h a o
end

section
variable {P : Program} {w : World} {H H' : Hp} {h h' : Heap} {a : Addr} {o : HO}
theorem ObjOk.lt (x : ObjOk P w H h a o) : a < h.objs.size := by
  cases o with
  | lst xs => obtain ⟨_, _, _, _, e⟩ := x; exact Heap.lt_size e
  | tup xs => obtain ⟨_, _, _, p⟩ := x; exact p.lt
  | dK kvs => obtain ⟨_, _, _, _, o, _, _, e, _⟩ := x; exact Heap.lt_size e
  | dT kvs => obtain ⟨_, _, _, _, o, _, _, e, _⟩ := x; exact Heap.lt_size e
  | set S n => obtain ⟨o, _, _, _, e, _⟩ := x; exact Heap.lt_size e
  | ins C dx fs => obtain ⟨_, _, _, e, _⟩ := x; exact Heap.lt_size e
  | own y => obtain ⟨_, e⟩ := x; exact Heap.lt_size e
  | xd fs => obtain ⟨_, ⟨_, _, _, e, _⟩, _⟩ := x; exact Heap.lt_size e
  | rng lo hi => obtain ⟨_, _, _, e⟩ := x; exact Heap.lt_size e
  | frz ob u => obtain ⟨e, _⟩ := x; exact Heap.lt_size e
  | tbl ps => exact Heap.lt_size (show h.get? a = some _ from x)
  | met f y => exact Heap.lt_size (show h.get? a = some _ from x)
  | ext φ => obtain ⟨_, ⟨_, e⟩, _⟩ := x; exact Heap.lt_size e
theorem Paired.mapP {α β : Type} {F G : α → β → Prop} : ∀ {l₁ : List α} {l₂ : List β}, Paired F l₁ l₂ → (∀ a b, F a b → G a b) → Paired G l₁ l₂
  | _, _, .nil, _ => .nil
  | _, _, .cons r t, f => .cons (f _ _ r) (Paired.mapP t f)
theorem Paired.imp' {α β : Type} {F G : α → β → Prop} (f : ∀ a b, F a b → G a b) {l₁ : List α} {l₂ : List β} (r : Paired F l₁ l₂) : Paired G l₁ l₂ := Paired.mapP r f
theorem ObjOk.stay (x : ObjOk P w H h a o) (k : ∀ b u, (b = a ∨ H b = some (.own a)) → h.get? b = some u → h'.get? b = some u)
    (ho : ∀ b, H b = some (.own a) → H' b = some (.own a)) (ht : ∀ b xs, H b = some (.tup xs) → H' b = some (.tup xs)) : ObjOk P w H' h' a o := by
  induction o with
  | lst xs => obtain ⟨z, its, n, r, e⟩ := x; exact ⟨z, its, n, r, k _ _ (.inl rfl) e⟩
  | tup xs => obtain ⟨z, its, r, ob, e, c⟩ := x; exact ⟨z, its, r, ob, k _ _ (.inl rfl) e, c⟩
  | dK kvs => obtain ⟨z, y, vs, r, ob, es, ep, e, c⟩ := x; exact ⟨z, y, vs, r, ob, es, ep, k _ _ (.inl rfl) e, c⟩
  | dT kvs =>
    obtain ⟨z, y, xs, r, ob, es, ep, e, c⟩ := x
    exact ⟨z, y, xs, Paired.mapP r fun p q z => ⟨z.1, ht _ _ z.2.1, z.2.2⟩, ob, es, ep, k _ _ (.inl rfl) e, c⟩
  | set S n => obtain ⟨ob, es, ep, t, e, c⟩ := x; exact ⟨ob, es, ep, t, k _ _ (.inl rfl) e, c⟩
  | ins C dx fs =>
    obtain ⟨d, z, ne, e, mA, ⟨od, es, ep, e2, c⟩, r⟩ := x
    exact ⟨ho _ d, z, ne, k _ _ (.inl rfl) e, mA, ⟨od, es, ep, k _ _ (.inr d) e2, c⟩, r⟩
  | own y => obtain ⟨ob, e⟩ := x; exact ⟨ob, k _ _ (.inl rfl) e⟩
  | xd fs => obtain ⟨mA, ⟨od, es, ep, e, c⟩, r⟩ := x; exact ⟨mA, ⟨od, es, ep, k _ _ (.inl rfl) e, c⟩, r⟩
  | rng lo hi => obtain ⟨t, u, v, e⟩ := x; exact ⟨t, u, v, k _ _ (.inl rfl) e⟩
  | frz ob u ih => obtain ⟨e, q⟩ := x; exact ⟨k _ _ (.inl rfl) e, ih q⟩
  | tbl ps =>
    have e : h.get? a = some { cls := .none, data := .fields ps } := x
    show h'.get? a = some { cls := .none, data := .fields ps }
    exact k a _ (.inl rfl) e
  | met f y =>
    have e : h.get? a = some (PySem.W.methodObj (.ref f) (.ref y)) := x
    show h'.get? a = some (PySem.W.methodObj (.ref f) (.ref y))
    exact k a _ (.inl rfl) e
  | ext φ => obtain ⟨p, ⟨o, e⟩, st⟩ := x; exact ⟨st _ _ p fun o q => k _ _ (.inl rfl) q, ⟨o, k _ _ (.inl rfl) e⟩, st⟩
theorem HOk.lt (x : HOk P w H h) (e : H a = some o) : a < h.objs.size := (x a o e).lt
theorem HOk.fresh (x : HOk P w H h) (e : h.objs.size ≤ a) : H a = none := by
  cases q : H a with
  | none => rfl
  | some u => exact absurd (Nat.lt_of_lt_of_le (x.lt q) e) (Nat.lt_irrefl _)
theorem HOk.kept (x : HOk P w H h) (k : ∀ b u, h.get? b = some u → h'.get? b = some u) : HOk P w H h' := fun a o e =>
  (x a o e).stay (fun b u _ q => k b u q) (fun _ q => q) fun _ _ q => q
theorem HOk.laid (x : HOk P w H h) (k : ∀ b u, h.get? b = some u → h'.get? b = some u) (hp : h.objs.size ≤ a) (new : ObjOk P w (upd H a o) h' a o) : HOk P w (upd H a o) h' := fun b u e => by
  have hn := x.fresh hp
  by_cases hb : b = a
  · subst hb; rw [upd_same] at e; cases e; exact new
  · rw [upd_ne hb] at e
    exact (x b u e).stay (fun c v _ q => k c v q) (fun c q => by rw [upd_ne (ne_of_none q hn)]; exact q) fun c xs q => by rw [upd_ne (ne_of_none q hn)]; exact q
end

def Rd (H : Hp) (a : Addr) (u : HO) : Prop := H a = some u ∨ ∃ o, H a = some (.frz o u)
theorem Rd.of {H : Hp} {a : Addr} {u : HO} (h : H a = some u) : Rd H a u := .inl h
theorem Rd.ok {P : Program} {w : World} {H : Hp} {h : Heap} {a : Addr} {u : HO} (r : Rd H a u) (x : HOk P w H h) : ObjOk P w H h a u := by
  rcases r with r | ⟨o, r⟩
  · exact x a u r
  · obtain ⟨_, q⟩ := x a _ r
    exact q
def Mut : Option HO → Prop
  | some (.lst _) => True
  | some (.dK _) => True
  | some (.dT _) => True
  | some (.set _ _) => True
  | some (.ins _ _ _) => True
  | some (.ext _) => True
  | _ => False
section
variable {P : Program} {w : World} {H : Hp} {h h' : Heap} {x e : Addr} {o' : HO}
theorem HOk.write (ok : HOk P w H h) (mu : Mut (H x)) (he : e = x ∨ H e = some (.own x)) (k : ∀ b u, b ≠ e → h.get? b = some u → h'.get? b = some u) (heo : ∃ u, h'.get? e = some u)
    (new : ObjOk P w (upd H x o') h' x o') : HOk P w (upd H x o') h' := fun b u q => by
  have nown : ∀ c y, H c = some (.own y) → c ≠ x := fun c y r z => by subst z; rw [r] at mu; exact mu
  have ntup : ∀ c xs, H c = some (.tup xs) → c ≠ x := fun c xs r z => by subst z; rw [r] at mu; exact mu
  by_cases hb : b = x
  · subst hb; rw [upd_same] at q; cases q; exact new
  · rw [upd_ne hb] at q
    by_cases hbe : b = e
    · have q' : H b = some (.own x) := by
        rcases he with z | z
        · exact absurd (hbe.trans z) hb
        · rw [hbe]; exact z
      rw [q] at q'; cases q'
      obtain ⟨v, hv⟩ := heo
      exact ⟨v, by rw [hbe]; exact hv⟩
    · refine (ok b u q).stay (fun c v hc r => k c v ?_ r) (fun c r => by rw [upd_ne (nown c b r)]; exact r) fun c xs r => by rw [upd_ne (ntup c xs r)]; exact r
      rcases hc with rfl | hc
      · exact hbe
      · rintro rfl
        rcases he with z | z
        · exact nown c b hc z
        · rw [hc] at z; cases z; exact hb rfl
end

/-! ### kept unless tracked; of the frames at fs (the callers') the slots may change (an exception that passes writes there); of the records at ex (iterators) nothing is said -/
structure Un (fs ex : List Addr) (H H' : Hp) (h h' : Heap) : Prop where
  keep : ∀ b o, h.get? b = some o → H b = none → b ∉ fs → b ∉ ex → h'.get? b = some o
  slot : ∀ b o, h.get? b = some o → H b = none → b ∈ fs → b ∉ ex → ∃ sl, h'.get? b = some { o with slots := sl }
  free : ∀ b o, h.get? b = some o → H b = none → b ∉ ex → H' b = none
  there : ∀ b o, h.get? b = some o → b ∉ ex → ∃ o', h'.get? b = some o'
  tups : ∀ b xs, H b = some (.tup xs) → H' b = some (.tup xs)
  frzs : ∀ b o u, H b = some (.frz o u) → H' b = some (.frz o u)
  tbls : ∀ b ps, H b = some (.tbl ps) → ∃ more, H' b = some (.tbl (ps ++ more))
section
variable {fs fs' ex ex' : List Addr} {H H1 H2 : Hp} {h h1 h2 h' : Heap} {a x e : Addr} {o : HO}
theorem Un.any (u : Un fs ex H H1 h h1) {b : Addr} {ob : Obj} (q : h.get? b = some ob) (n : H b = none) (hx : b ∉ ex) : ∃ sl, h1.get? b = some { ob with slots := sl } := by
  by_cases hb : b ∈ fs
  · exact u.slot b ob q n hb hx
  · exact ⟨ob.slots, u.keep b ob q n hb hx⟩
theorem Un.kept (k : ∀ b u, h.get? b = some u → h'.get? b = some u) : Un fs ex H H h h' :=
  ⟨fun b ob q _ _ _ => k b ob q, fun b ob q _ _ _ => ⟨ob.slots, k b ob q⟩, fun _ _ _ n _ => n, fun b ob q _ => ⟨ob, k b ob q⟩, fun _ _ q => q, fun _ _ _ q => q, fun _ ps q => ⟨#[], by rw [q]; simp⟩⟩
theorem Un.refl : Un fs ex H H h h := Un.kept fun _ _ q => q
theorem Un.laid (k : ∀ b u, h.get? b = some u → h'.get? b = some u) (hp : h.objs.size ≤ a) (hn : H a = none) : Un fs ex H (upd H a o) h h' where
  keep := fun b u q _ _ _ => k b u q
  slot := fun b u q _ _ _ => ⟨u.slots, k b u q⟩
  free := fun b u q n _ => by rw [upd_ne (Nat.ne_of_lt (Nat.lt_of_lt_of_le (Heap.lt_size q) hp))]; exact n
  there := fun b u q _ => ⟨u, k b u q⟩
  tups := fun b xs q => by rw [upd_ne (ne_of_none q hn)]; exact q
  frzs := fun b u xs q => by rw [upd_ne (ne_of_none q hn)]; exact q
  tbls := fun b ps q => ⟨#[], by rw [upd_ne (ne_of_none q hn), q]; simp⟩
theorem Un.write (mu : Mut (H x)) (he : e = x ∨ H e = some (.own x)) (k : ∀ b u, b ≠ e → h.get? b = some u → h'.get? b = some u) (heo : ∃ u, h'.get? e = some u) : Un fs ex H (upd H x o) h h' := by
  have hx : ∀ b, H b = none → b ≠ x := fun b n z => by subst z; rw [n] at mu; exact mu
  have hb : ∀ b, H b = none → b ≠ e := fun b n z => by
    subst z
    rcases he with r | r
    · exact hx b n r
    · rw [n] at r; cases r
  have hm : ∀ b u, H b = some u → ¬ Mut (some u) → b ≠ x := fun b u q nm z => by subst z; rw [q] at mu; exact nm mu
  refine ⟨fun b u q n _ _ => k b u (hb b n) q, fun b u q n _ _ => ⟨u.slots, k b u (hb b n) q⟩, fun b u q n _ => by rw [upd_ne (hx b n)]; exact n, fun b u q _ => ?_,
    fun b xs q => by rw [upd_ne (hm b _ q fun z => z)]; exact q, fun b u xs q => by rw [upd_ne (hm b _ q fun z => z)]; exact q, fun b ps q => ⟨#[], by rw [upd_ne (hm b _ q fun z => z), q]; simp⟩⟩
  by_cases hbe : b = e
  · subst hbe; exact heo
  · exact ⟨u, k b u hbe q⟩
end

/-! ### the heap without what is tracked -/
def trk (h : Heap) (H : Hp) : List Addr := (List.range h.objs.size).filter fun a => (H a).isSome
def hidT (h : Heap) (H : Hp) : Heap := PySem.W.hideAll h (trk h H)
theorem hidT_size (h : Heap) (H : Hp) : (hidT h H).objs.size = h.objs.size := PySem.W.hideAll_size _ _
theorem hidT_get {h : Heap} {H : Hp} {b : Addr} {o : Obj} (e : h.get? b = some o) (n : H b = none) : (hidT h H).get? b = some o :=
  PySem.W.hideAll_get _ e fun hm => by
    have q : (H b).isSome = true := (List.mem_filter.mp hm).2
    rw [n] at q; simp at q
theorem of_hidT {h : Heap} {H : Hp} {b : Addr} {o : Obj} (e : (hidT h H).get? b = some o) : h.get? b = some o ∧ H b = none := by
  have e' : h.get? b = some o := PySem.W.of_hideAll (trk h H) e
  refine ⟨e', ?_⟩
  cases q : H b with
  | none => rfl
  | some x =>
    have hm : b ∈ trk h H := List.mem_filter.mpr ⟨List.mem_range.mpr (Heap.lt_size e'), by simp [q]⟩
    have z : (hidT h H).get? b = none := PySem.W.hideAll_none (trk h H) hm
    rw [z] at e; cases e

/-! ### OpenK's ledger, filled with every new object but one -/
end L2

namespace L2
open PySem PySem.Spec PyProof.Rows

structure Mod (K : PySem.W.Frag) (mg : Str → Option Value) (base : Heap) : Prop where
  kin : K.In base
  glob : base.Ns mainGlobals mg
  blt : ∃ mb, base.Ns builtinsNs mb ∧ ∀ x : Str, x ≠ "__name__" → mb x = bootBuiltins x
  nolimit : base.NoLimit

/-- the context: a def's body (or a comprehension's block) running. base: fixed through the whole law; s₀, H₀: the entry; outer: the frames whose slots others may change (a def's callers); stack: all frames that run;
   ex: iterators that were made ahead of the entry and are walked here (a comprehension's); fn: the names whose cells were made at the entry (a def: all; a comprehension's block: its own); calm: not within an except suite; pn: pins that every state bears; xe: what is wanted of an exception that leaves the code -/
structure Cx where
  prog : Program
  w : World
  K : PySem.W.Frag
  mg : Str → Option Value
  base : Heap
  A : Around
  N : List Str
  s₀ : Shared
  H₀ : Hp
  env : Env
  outer : List Env
  stack : List Env
  ex : List Addr
  fn : Str → Bool
  calm : Bool
  pn : List (Addr × Obj)
  xe : Value → Shared → Prop
def frs (l : List Env) : List Addr := l.filterMap (·.frame)
abbrev Cx.fs (X : Cx) : List Addr := frs X.outer

def Vis (sc : Scope) (x : Str) : Prop := sc.names.lookup x = some .local ∨ sc.names.lookup x = some .cell ∨ sc.names.lookup x = some .free
def Loc (sc : Scope) (x : Str) : Prop := sc.names.lookup x = some .local ∨ sc.names.lookup x = some .cell
def Look (env : Env) (h : Heap) (m : Str → Option Value) (x : Str) (u : Value) : Prop :=
  (env.kindOf x = some .local ∧ m x = some u) ∨ ((env.kindOf x = some .cell ∨ env.kindOf x = some .free) ∧ ∃ c, env.cells.lookup x = some c ∧ h.IsCell c (some u))

structure Cx.Ok (X : Cx) : Prop where
  mod : Mod X.K X.mg X.base
  kind : X.env.scope.kind = .function
  glob : X.env.globals = mainGlobals
  blt : X.env.builtins = builtinsNs
  above : X.s₀.heap.objs.size ≤ X.env.locals
  inj : ∀ x y c, X.env.cells.lookup x = some c → X.env.cells.lookup y = some c → x = y
  has : ∀ x, (X.env.kindOf x = some .cell ∨ X.env.kindOf x = some .free) → ∃ c, X.env.cells.lookup x = some c
  cab : ∀ x c, X.fn x = true → X.env.cells.lookup x = some c → X.s₀.heap.objs.size ≤ c
  hd : X.calm = true → X.A.handled = none
  frames : X.A.frames = some X.stack
  stk : X.stack = X.outer ∨ (X.stack = X.env :: X.outer ∧ X.env.frame = some X.env.locals)
  exf : ∀ b ∈ X.ex, b ≠ X.env.locals ∧ ∀ x c, X.env.cells.lookup x = some c → c ≠ b
  bs : ∀ b o, X.base.get? b = some o → X.s₀.heap.get? b = some o ∧ X.H₀ b = none
  bsz : X.base.objs.size ≤ X.s₀.heap.objs.size
  noex : ∀ b o, X.base.get? b = some o → b ∉ X.ex
  exfs : ∀ b ∈ X.ex, b ∉ X.fs
  funs : X.s₀.heap.FunFrames X.base X.outer
  frf : ∀ b ∈ X.fs, X.H₀ b = none

structure Inv (X : Cx) (pins : List (Addr × Obj)) (σ : List (Option V)) (H : Hp) (s : Shared) : Prop where
  ok : X.Ok
  os : s.os = X.s₀.os
  bare : AllBare s.gens
  base : Un X.fs X.ex X.H₀ H X.s₀.heap s.heap
  loc : ∃ m, s.heap.Ns X.env.locals m ∧ ∀ (i : Nat) (x : Str) (v : V), X.N[i]? = some x → σ[i]? = some (some v) → Vis X.env.scope x → ∃ u, RelV v u ∧ Look X.env s.heap m x u
  cell : ∀ x c, X.env.cells.lookup x = some c → ∃ v, s.heap.IsCell c v
  free : H X.env.locals = none
  freeC : ∀ x c, X.env.cells.lookup x = some c → H c = none
  pin : ∀ p ∈ X.pn ++ pins, s.heap.get? p.1 = some p.2 ∧ H p.1 = none ∧ p.1 ≠ X.env.locals ∧ p.1 ∉ X.fs ∧ ∀ v, p.2.data ≠ .cell v
  hok : HOk X.prog X.w H s.heap
  len : σ.length = X.N.length

section
variable {X : Cx} {pins : List (Addr × Obj)} {σ : List (Option V)} {H H' : Hp} {s : Shared} {h' : Heap}

theorem Cx.Ok.nofr (ok : X.Ok) {b : Addr} {o : Obj} (e : X.base.get? b = some o) : b ∉ X.fs := fun hb => by
  have := (ok.funs.mem hb).1
  rw [e] at this; cases this
theorem Inv.bs (I : Inv X pins σ H s) : ∀ b o, X.base.get? b = some o → s.heap.get? b = some o ∧ H b = none := fun b o e =>
  ⟨I.base.keep b o (I.ok.bs b o e).1 (I.ok.bs b o e).2 (I.ok.nofr e) (I.ok.noex b o e), I.base.free b o (I.ok.bs b o e).1 (I.ok.bs b o e).2 (I.ok.noex b o e)⟩
theorem Inv.bk (I : Inv X pins σ H s) : ∀ b o, X.base.get? b = some o → s.heap.get? b = some o := fun b o e => (I.bs b o e).1
theorem Inv.mod (I : Inv X pins σ H s) : Mod X.K X.mg X.base := I.ok.mod
theorem Inv.kIn (I : Inv X pins σ H s) : X.K.In s.heap := I.ok.mod.kin.keeps I.bk
theorem Inv.lt (I : Inv X pins σ H s) : X.env.locals < s.heap.objs.size := let ⟨_, hn, _⟩ := I.loc; hn.lt
theorem Inv.sz (I : Inv X pins σ H s) : X.s₀.heap.objs.size ≤ s.heap.objs.size := Nat.le_trans I.ok.above (Nat.le_of_lt I.lt)
theorem Inv.nofs (I : Inv X pins σ H s) {a : Addr} (h : s.heap.objs.size ≤ a) : a ∉ X.fs := fun hb => by
  obtain ⟨_, o, ho, _⟩ := I.ok.funs.mem hb
  exact absurd (Nat.lt_of_lt_of_le (Heap.lt_size ho) (Nat.le_trans I.sz h)) (Nat.lt_irrefl _)
theorem Inv.cne (I : Inv X pins σ H s) : ∀ x c, X.env.cells.lookup x = some c → c ≠ X.env.locals := fun x c e z => by
  obtain ⟨v, o, ho, hd⟩ := I.cell x c e
  obtain ⟨m, ⟨o', es, ep, ho', hd', _⟩, _⟩ := I.loc
  rw [z, ho'] at ho; cases ho; rw [hd'] at hd; cases hd
theorem Inv.funs (I : Inv X pins σ H s) : s.heap.FunFrames X.base X.outer := by
  have all : ∀ (l : List Env), (∀ b ∈ frs l, b ∈ X.fs) → X.s₀.heap.FunFrames X.base l → s.heap.FunFrames X.base l := by
    intro l
    induction l with
    | nil => intro _ _; trivial
    | cons env r ih =>
      intro hs hl
      obtain ⟨hk, ⟨L, o, hf, hn, ho, hd⟩, hr⟩ := hl
      have hL : L ∈ X.fs := hs L (by unfold frs; rw [List.filterMap_cons, hf]; exact List.mem_cons_self)
      obtain ⟨sl, e⟩ := I.base.slot L o ho (I.ok.frf L hL) hL fun z => I.ok.exfs L z hL
      exact ⟨hk, ⟨L, _, hf, hn, e, hd⟩, ih (fun b hb => hs b (by unfold frs; rw [List.filterMap_cons, hf]; exact List.mem_cons_of_mem _ hb)) hr⟩
  exact all X.outer (fun _ hb => hb) I.ok.funs

theorem Inv.stack (I : Inv X pins σ H s) : s.heap.FunFrames X.base X.stack := by
  rcases I.ok.stk with e | ⟨e, hf⟩
  · rw [e]; exact I.funs
  · rw [e]
    obtain ⟨m, hn, _⟩ := I.loc
    refine .cons (by rw [I.ok.kind]; decide) hf hn ?_ I.funs
    exact Heap.get?_none_of_le (Nat.le_trans I.ok.bsz I.ok.above)
theorem Inv.stkSub (I : Inv X pins σ H s) : ∀ b ∈ frs X.stack, b ∈ X.env.locals :: X.fs := fun b hb => by
  rcases I.ok.stk with e | ⟨e, hf⟩
  · rw [e] at hb; exact List.mem_cons_of_mem _ hb
  · rw [e] at hb
    unfold frs at hb
    rw [List.filterMap_cons, hf] at hb
    exact hb
theorem Inv.stkFree (I : Inv X pins σ H s) : ∀ b ∈ frs X.stack, H b = none := fun b hb => by
  rcases List.mem_cons.mp (I.stkSub b hb) with e | hb
  · rw [e]; exact I.free
  · obtain ⟨_, o, ho, _⟩ := I.ok.funs.mem hb
    exact I.base.free b o ho (I.ok.frf b hb) fun z => I.ok.exfs b z hb

theorem Inv.step {g' : Array GenState} {t' : Nat} {d' : Drawn} {ch : List Addr} (I : Inv X pins σ H s)
    (hch : ∀ b ∈ ch, (b ∈ X.ex ∨ X.s₀.heap.objs.size ≤ b) ∧ b ≠ X.env.locals ∧ (∀ x c, X.env.cells.lookup x = some c → c ≠ b) ∧ ∀ p ∈ X.pn ++ pins, p.1 ≠ b)
    (keep : ∀ b o, b ≠ X.env.locals → b ∉ X.fs → b ∉ ch → s.heap.get? b = some o → H b = none → h'.get? b = some o)
    (slot : ∀ b o, b ≠ X.env.locals → b ∈ X.fs → b ∉ ch → s.heap.get? b = some o → H b = none → ∃ sl, h'.get? b = some { o with slots := sl }) (free : ∀ b o, b ∉ ch → s.heap.get? b = some o → H b = none → H' b = none)
    (there : ∀ b o, b ∉ ch → s.heap.get? b = some o → ∃ o', h'.get? b = some o')
    (tups : ∀ b xs, H b = some (.tup xs) → H' b = some (.tup xs)) (frzs : ∀ b o u, H b = some (.frz o u) → H' b = some (.frz o u)) (tbls : ∀ b ps, H b = some (.tbl ps) → ∃ more, H' b = some (.tbl (ps ++ more)))
    (ns : ∀ m, s.heap.Ns X.env.locals m → h'.Ns X.env.locals m) (hok : HOk X.prog X.w H' h') (hg : AllBare g') :
    Inv X pins σ H' { s with heap := h', gens := g', drawn := d', toks := t' } := by
  have neL : ∀ b o, X.s₀.heap.get? b = some o → b ≠ X.env.locals := fun b o e => Nat.ne_of_lt (Nat.lt_of_lt_of_le (Heap.lt_size e) I.ok.above)
  have neC : ∀ b o, X.s₀.heap.get? b = some o → b ∉ X.ex → b ∉ ch := fun b o e hx hb => by
    rcases (hch b hb).1 with z | z
    · exact hx z
    · exact absurd (Nat.lt_of_lt_of_le (Heap.lt_size e) z) (Nat.lt_irrefl _)
  have cellK : ∀ x c, X.env.cells.lookup x = some c → ∀ v, s.heap.IsCell c v → h'.IsCell c v := fun x c e v ⟨o, ho, hd⟩ => by
    have nch : c ∉ ch := fun z => (hch c z).2.2.1 x c e rfl
    by_cases hc : c ∈ X.fs
    · obtain ⟨sl, q⟩ := slot c o (I.cne x c e) hc nch ho (I.freeC x c e)
      exact ⟨_, q, hd⟩
    · exact ⟨o, keep c o (I.cne x c e) hc nch ho (I.freeC x c e), hd⟩
  refine ⟨I.ok, I.os, hg, ⟨fun b o e n hb hx => ?_, fun b o e n hb hx => ?_, fun b o e n hx => ?_, fun b o e hx => ?_, fun b xs e => tups b xs (I.base.tups b xs e), fun b o xs e => frzs b o xs (I.base.frzs b o xs e), fun b ps e => ?_⟩, ?_, fun x c e => ?_, ?_, fun x c e => ?_, fun p hp => ?_, hok, I.len⟩
  · exact keep b o (neL b o e) hb (neC b o e hx) (I.base.keep b o e n hb hx) (I.base.free b o e n hx)
  · obtain ⟨sl, e1⟩ := I.base.slot b o e n hb hx
    obtain ⟨sl', e2⟩ := slot b _ (neL b o e) hb (neC b o e hx) e1 (I.base.free b o e n hx)
    exact ⟨sl', e2⟩
  · obtain ⟨o', e1⟩ := I.base.there b o e hx
    exact free b o' (neC b o e hx) e1 (I.base.free b o e n hx)
  · obtain ⟨o', e1⟩ := I.base.there b o e hx
    exact there b o' (neC b o e hx) e1
  · obtain ⟨m1, e1⟩ := I.base.tbls b ps e
    obtain ⟨m2, e2⟩ := tbls b _ e1
    exact ⟨m1 ++ m2, by rw [e2, Array.append_assoc]⟩
  · obtain ⟨m, hn, hl⟩ := I.loc
    refine ⟨m, ns m hn, fun i x v e1 e2 e3 => ?_⟩
    obtain ⟨u, r, l⟩ := hl i x v e1 e2 e3
    refine ⟨u, r, ?_⟩
    rcases l with l | ⟨k, c, e, z⟩
    · exact .inl l
    · exact .inr ⟨k, c, e, cellK x c e _ z⟩
  · obtain ⟨v, z⟩ := I.cell x c e
    exact ⟨v, cellK x c e v z⟩
  · obtain ⟨m, ⟨o, _, _, ho, _⟩, _⟩ := I.loc
    exact free _ o (fun z => (hch _ z).2.1 rfl) ho I.free
  · obtain ⟨v, o, ho, hd⟩ := I.cell x c e
    exact free c o (fun z => (hch c z).2.2.1 x c e rfl) ho (I.freeC x c e)
  · obtain ⟨e, n, ne, nf, d⟩ := I.pin p hp
    have nch : p.1 ∉ ch := fun z => (hch p.1 z).2.2.2 p hp rfl
    exact ⟨keep p.1 p.2 ne nf nch e n, free p.1 p.2 nch e n, ne, nf, d⟩
theorem Inv.un {t' : Nat} (I : Inv X pins σ H s) (u : Un X.fs [] H H' s.heap h') (hok : HOk X.prog X.w H' h') : Inv X pins σ H' { s with heap := h', toks := t' } := by
  obtain ⟨m, ⟨o, es, ep, ho, r⟩, _⟩ := id I.loc
  obtain ⟨sl, hL⟩ := u.any ho I.free (by simp)
  exact I.step (g' := s.gens) (d' := s.drawn) (ch := []) (fun _ z => nomatch z) (fun b o _ hb _ e n => u.keep b o e n hb (by simp)) (fun b o _ hb _ e n => u.slot b o e n hb (by simp)) (fun b o _ e n => u.free b o e n (by simp)) (fun b o _ e => u.there b o e (by simp)) u.tups u.frzs u.tbls (fun m' hm => by
    obtain ⟨o', es', ep', ho', r'⟩ := hm
    rw [ho] at ho'; cases ho'
    exact ⟨_, es', ep', hL, r'⟩) hok I.bare
theorem Inv.call {g' : Array GenState} {t' : Nat} {d' : Drawn} {ch : List Addr} (I : Inv X pins σ H s) (u : Un (frs X.stack) ch H H' s.heap h') (hok : HOk X.prog X.w H' h') (hg : AllBare g')
    (hch : ∀ b ∈ ch, (b ∈ X.ex ∨ X.s₀.heap.objs.size ≤ b) ∧ b ≠ X.env.locals ∧ (∀ x c, X.env.cells.lookup x = some c → c ≠ b) ∧ ∀ p ∈ X.pn ++ pins, p.1 ≠ b) :
    Inv X pins σ H' { s with heap := h', gens := g', drawn := d', toks := t' } := by
  obtain ⟨m, ⟨o, es, ep, ho, r⟩, _⟩ := id I.loc
  obtain ⟨sl, hL⟩ := u.any ho I.free fun z => (hch _ z).2.1 rfl
  exact I.step (ch := ch) hch (fun b o hL hb hc e n => u.keep b o e n (fun z => (List.mem_cons.mp (I.stkSub b z)).elim hL hb) hc) (fun b o _ _ hc e n => u.any e n hc) (fun b o hc e n => u.free b o e n hc) (fun b o hc e => u.there b o e hc) u.tups u.frzs u.tbls (fun m' hm => by
    obtain ⟨o', es', ep', ho', r'⟩ := hm
    rw [ho] at ho'; cases ho'
    exact ⟨_, es', ep', hL, r'⟩) hok hg
theorem Inv.turned {t' : Nat} {it : Addr} (I : Inv X pins σ H s) (k : ∀ b o, b ≠ it → s.heap.get? b = some o → h'.get? b = some o) (hn : H it = none) (hL : it ≠ X.env.locals)
    (h1 : it ∈ X.ex ∨ X.s₀.heap.objs.size ≤ it) (h2 : ∀ x c, X.env.cells.lookup x = some c → c ≠ it) (h3 : ∀ p ∈ X.pn ++ pins, p.1 ≠ it) : Inv X pins σ H { s with heap := h', toks := t' } := by
  have nit : ∀ b u, H b = some u → b ≠ it := fun b u e z => by rw [z, hn] at e; cases e
  refine I.step (g' := s.gens) (d' := s.drawn) (ch := [it]) (fun b hb => ?_) (fun b o _ _ hc e _ => k b o (fun z => hc (by simp [z])) e) (fun b o _ _ hc e _ => ⟨o.slots, k b o (fun z => hc (by simp [z])) e⟩) (fun _ _ _ _ n => n)
    (fun b o hc e => ⟨o, k b o (fun z => hc (by simp [z])) e⟩) (fun _ _ e => e) (fun _ _ _ e => e) (fun b ps e => ⟨#[], by rw [e]; simp⟩) (fun m hm => ?_) (fun b u e => ?_) I.bare
  · have e : b = it := by simpa using hb
    subst e
    exact ⟨h1, hL, h2, h3⟩
  · obtain ⟨o, es, ep, ho, r⟩ := hm
    exact ⟨o, es, ep, k _ o (Ne.symm hL) ho, r⟩
  · refine (I.hok b u e).stay (fun c v hc q => k c v ?_ q) (fun _ q => q) fun _ _ q => q
    rcases hc with z | z
    · rw [z]; exact nit b u e
    · exact nit c _ z
theorem Inv.tok (I : Inv X pins σ H s) (t : Nat) : Inv X pins σ H { s with toks := t } := I.un (h' := s.heap) (t' := t) Un.refl I.hok
theorem Inv.kept {t' : Nat} (I : Inv X pins σ H s) (k : ∀ b u, s.heap.get? b = some u → h'.get? b = some u) : Inv X pins σ H { s with heap := h', toks := t' } := I.un (Un.kept k) (I.hok.kept k)
theorem Inv.laid {a : Addr} {o : HO} {t' : Nat} (I : Inv X pins σ H s) (k : ∀ b u, s.heap.get? b = some u → h'.get? b = some u) (hp : s.heap.objs.size ≤ a) (new : ObjOk X.prog X.w (upd H a o) h' a o) :
    Inv X pins σ (upd H a o) { s with heap := h', toks := t' } := I.un (Un.laid k hp (I.hok.fresh hp)) (I.hok.laid k hp new)
theorem Inv.write {x e : Addr} {o : HO} {t' : Nat} (I : Inv X pins σ H s) (mu : Mut (H x)) (he : e = x ∨ H e = some (.own x)) (k : ∀ b u, b ≠ e → s.heap.get? b = some u → h'.get? b = some u) (heo : ∃ u, h'.get? e = some u)
    (new : ObjOk X.prog X.w (upd H x o) h' x o) : Inv X pins σ (upd H x o) { s with heap := h', toks := t' } := I.un (Un.write mu he k heo) (I.hok.write mu he k heo new)
theorem Inv.pins_of {pins' : List (Addr × Obj)} (I : Inv X pins σ H s) (h : ∀ p ∈ pins', s.heap.get? p.1 = some p.2 ∧ H p.1 = none ∧ p.1 ≠ X.env.locals ∧ p.1 ∉ X.fs ∧ ∀ v, p.2.data ≠ .cell v) : Inv X pins' σ H s :=
  ⟨I.ok, I.os, I.bare, I.base, I.loc, I.cell, I.free, I.freeC, fun p hp => (List.mem_append.mp hp).elim (fun z => I.pin p (List.mem_append_left _ z)) (h p), I.hok, I.len⟩

theorem nodup_ix {N : List Str} (hN : N.Nodup) {i j : Nat} {x : Str} (a : N[i]? = some x) (b : N[j]? = some x) : i = j := by
  obtain ⟨h1, e1⟩ := List.getElem?_eq_some_iff.mp a
  obtain ⟨h2, e2⟩ := List.getElem?_eq_some_iff.mp b
  exact (List.getElem_inj hN).mp (e1.trans e2.symm)

theorem store_ok2 {M : Model} {A : Around} {E : Value → Shared → Prop} {i : Nat} {x : Str} {v : V} {u : Value} {Q : Unit → Shared → Prop} (I : Inv X pins σ H s) (hN : X.N.Nodup) (hi : X.N[i]? = some x) (hx : Loc X.env.scope x) (r : RelV v u)
    (h : ∀ s', Inv X pins (σ.set i (some v)) H s' → (∃ a, Heap.SameBut a s.heap s'.heap ∧ (a = X.env.locals ∨ X.env.cells.lookup x = some a)) → Q () s') (hf : X.fn x = true ∨ X.env.scope.names.lookup x = some .local := by first | exact .inl rfl | exact .inr rfl | assumption) : wpAny M A (storeName X.env x u) Q E s := by
  obtain ⟨m, hn, hl⟩ := id I.loc
  have hcls : (X.env.scope.kind == .class || (X.env.scope.kind == .module && X.env.locals != X.env.globals)) = false := by rw [I.ok.kind]; rfl
  have hiσ : i < σ.length := by rw [I.len]; exact (List.getElem?_eq_some_iff.mp hi).1
  have cne := I.cne
  have tracked : ∀ {a : Addr} {h' : Heap}, (∃ o, s.heap.get? a = some o ∧ H a = none) → Heap.SameBut a s.heap h' → HOk X.prog X.w H h' := fun {a h'} ha hs b ob e => by
    obtain ⟨_, _, hfree⟩ := ha
    refine (I.hok b ob e).stay (fun c w' hc q => (hs.2 c ?_).trans q) (fun _ q => q) fun _ _ q => q
    rintro rfl
    rcases hc with rfl | hc
    · rw [hfree] at e; cases e
    · rw [hfree] at hc; cases hc
  rcases hx with hk | hk
  · refine wpAny_storeName_local hk hn (fun h' hn' hs => ?_) hcls
    obtain ⟨oL, _, _, hoL, _⟩ := id hn
    refine h _ ⟨I.ok, I.os, I.bare, ⟨fun b o e n hb hx => ?_, fun b o e n hb hx => ?_, I.base.free, fun b o e hx => ?_, I.base.tups, I.base.frzs, I.base.tbls⟩, ⟨_, hn', fun j y v' e1 e2 e3 => ?_⟩, fun y c e => ?_, I.free, I.freeC, fun p hp => ?_, tracked ⟨oL, hoL, I.free⟩ hs, by simpa using I.len⟩ ⟨_, hs, .inl rfl⟩
    · exact (hs.2 b (Nat.ne_of_lt (Nat.lt_of_lt_of_le (Heap.lt_size e) I.ok.above))).trans (I.base.keep b o e n hb hx)
    · obtain ⟨sl, e1⟩ := I.base.slot b o e n hb hx
      exact ⟨sl, (hs.2 b (Nat.ne_of_lt (Nat.lt_of_lt_of_le (Heap.lt_size e) I.ok.above))).trans e1⟩
    · obtain ⟨o', e1⟩ := I.base.there b o e hx
      exact ⟨o', (hs.2 b (Nat.ne_of_lt (Nat.lt_of_lt_of_le (Heap.lt_size e) I.ok.above))).trans e1⟩
    · by_cases hj : j = i
      · subst hj
        rw [hi] at e1; cases e1
        rw [List.getElem?_set_self hiσ] at e2
        cases e2
        exact ⟨u, r, .inl ⟨hk, by simp⟩⟩
      · rw [List.getElem?_set_ne (Ne.symm hj)] at e2
        obtain ⟨u', r', q⟩ := hl j y v' e1 e2 e3
        refine ⟨u', r', ?_⟩
        rcases q with ⟨k, e⟩ | ⟨k, c, e, z⟩
        · refine .inl ⟨k, ?_⟩
          have : y ≠ x := fun e => hj (nodup_ix hN e1 (e ▸ hi))
          simp [this, e]
        · exact .inr ⟨k, c, e, z.sameBut hs (cne y c e)⟩
    · obtain ⟨w', z⟩ := I.cell y c e
      exact ⟨w', z.sameBut hs (cne y c e)⟩
    · obtain ⟨e, n, ne, nf, d⟩ := I.pin p hp
      exact ⟨(hs.2 p.1 ne).trans e, n, ne, nf, d⟩
  · have hfn : X.fn x = true := by
      rcases hf with z | z
      · exact z
      · rw [z] at hk; cases hk
    obtain ⟨c, hc⟩ := I.ok.has x (.inl hk)
    obtain ⟨w', z⟩ := I.cell x c hc
    refine wpAny_storeName_cell I.ok.kind hk hc z (fun h' hc' hs => ?_)
    obtain ⟨oc, hoc, hocd⟩ := id z
    refine h { s with heap := h' } ⟨I.ok, I.os, I.bare, ⟨fun b o e n hb hx => ?_, fun b o e n hb hx => ?_, I.base.free, fun b o e hx => ?_, I.base.tups, I.base.frzs, I.base.tbls⟩, ⟨m, hn.sameBut hs (Ne.symm (cne x c hc)), fun j y v' e1 e2 e3 => ?_⟩, fun y c' e => ?_, I.free, I.freeC, fun p hp => ?_, tracked ⟨oc, hoc, I.freeC x c hc⟩ hs, by simpa using I.len⟩ ⟨c, hs, .inr hc⟩
    · exact (hs.2 b (Nat.ne_of_lt (Nat.lt_of_lt_of_le (Heap.lt_size e) (I.ok.cab x c hfn hc)))).trans (I.base.keep b o e n hb hx)
    · obtain ⟨sl, e1⟩ := I.base.slot b o e n hb hx
      exact ⟨sl, (hs.2 b (Nat.ne_of_lt (Nat.lt_of_lt_of_le (Heap.lt_size e) (I.ok.cab x c hfn hc)))).trans e1⟩
    · obtain ⟨o', e1⟩ := I.base.there b o e hx
      exact ⟨o', (hs.2 b (Nat.ne_of_lt (Nat.lt_of_lt_of_le (Heap.lt_size e) (I.ok.cab x c hfn hc)))).trans e1⟩
    · by_cases hj : j = i
      · subst hj
        rw [hi] at e1; cases e1
        rw [List.getElem?_set_self hiσ] at e2
        cases e2
        exact ⟨u, r, .inr ⟨.inl hk, c, hc, hc'⟩⟩
      · rw [List.getElem?_set_ne (Ne.symm hj)] at e2
        obtain ⟨u', r', q⟩ := hl j y v' e1 e2 e3
        refine ⟨u', r', ?_⟩
        rcases q with q | ⟨k, c', e, z'⟩
        · exact .inl q
        · refine .inr ⟨k, c', e, z'.sameBut hs ?_⟩
          rintro rfl
          exact hj (nodup_ix hN e1 (I.ok.inj _ _ _ e hc ▸ hi))
    · by_cases hcc : c' = c
      · subst hcc; exact ⟨_, hc'⟩
      · obtain ⟨w2, z2⟩ := I.cell y c' e
        exact ⟨w2, z2.sameBut hs hcc⟩
    · obtain ⟨e, n, ne, nf, d⟩ := I.pin p hp
      refine ⟨(hs.2 p.1 ?_).trans e, n, ne, nf, d⟩
      intro q
      rw [q, hoc] at e
      have q' : oc = p.2 := Option.some.inj e
      exact d w' (by rw [← q']; exact hocd)
theorem store_ok {M : Model} {A : Around} {E : Value → Shared → Prop} {i : Nat} {x : Str} {v : V} {u : Value} {Q : Unit → Shared → Prop} (I : Inv X pins σ H s) (hN : X.N.Nodup) (hi : X.N[i]? = some x) (hx : Loc X.env.scope x) (r : RelV v u)
    (h : ∀ s', Inv X pins (σ.set i (some v)) H s' → Q () s') (hf : X.fn x = true ∨ X.env.scope.names.lookup x = some .local := by first | exact .inl rfl | exact .inr rfl | assumption) : wpAny M A (storeName X.env x u) Q E s :=
  store_ok2 I hN hi hx r (fun s' I' _ => h s' I') hf
theorem Inv.call' {s' : Shared} {ch : List Addr} (I : Inv X pins σ H s) (ho : s'.os = s.os) (u : Un (frs X.stack) ch H H' s.heap s'.heap) (hok : HOk X.prog X.w H' s'.heap) (hg : AllBare s'.gens)
    (hch : ∀ b ∈ ch, (b ∈ X.ex ∨ X.s₀.heap.objs.size ≤ b) ∧ b ≠ X.env.locals ∧ (∀ x c, X.env.cells.lookup x = some c → c ≠ b) ∧ ∀ p ∈ X.pn ++ pins, p.1 ≠ b) : Inv X pins σ H' s' := by
  obtain ⟨h', g', d', t', o'⟩ := s'
  have e : o' = s.os := ho
  subst e
  exact I.call (g' := g') (t' := t') (d' := d') u hok hg hch
end

/-! ### the judgements -/
abbrev XK := Value → Option Addr → Hp → Prop
abbrev St := List (Option V)
abbrev VK := V → Hp → Prop
abbrev TE := St → Hp → VK → Prop
abbrev TT := St → Hp → (Bool → Hp → Prop) → Prop
abbrev TA := St → Hp → (List V → Hp → Prop) → Prop
structure Ends where
  nx : St → Hp → Prop
  rt : VK
  bk : St → Hp → Prop := fun _ _ => False
  ct : St → Hp → Prop := fun _ _ => False
abbrev TS := Ends → St → Hp → Prop

def EP (X : Cx) (pins : List (Addr × Obj)) (σ : St) (Q : VK) (u : Value) (s' : Shared) : Prop := ∃ v H', Inv X pins σ H' s' ∧ RelV v u ∧ Q v H'
def TP (X : Cx) (pins : List (Addr × Obj)) (σ : St) (Q : Bool → Hp → Prop) (b : Bool) (s' : Shared) : Prop := ∃ H', Inv X pins σ H' s' ∧ Q b H'
def AP (X : Cx) (pins : List (Addr × Obj)) (σ : St) (Q : List V → Hp → Prop) (us : List Value) (s' : Shared) : Prop := ∃ vs H', Inv X pins σ H' s' ∧ Vals vs us ∧ Q vs H'
def SP (X : Cx) (pins : List (Addr × Obj)) (D : Ends) (f : Flow) (s' : Shared) : Prop :=
  match f with
  | .next => ∃ σ' H', Inv X pins σ' H' s' ∧ D.nx σ' H'
  | .brk => ∃ σ' H', Inv X pins σ' H' s' ∧ D.bk σ' H'
  | .cont => ∃ σ' H', Inv X pins σ' H' s' ∧ D.ct σ' H'
  | .ret u => ∃ v σ' H', Inv X pins σ' H' s' ∧ RelV v u ∧ D.rt v H'

def PE (X : Cx) (e : Expr) (t : TE) : Prop :=
  ∀ (pins : List (Addr × Obj)) (s : Shared) (σ : St) (H : Hp) (Q : VK), Inv X pins σ H s → t σ H Q → wpAny (model X.prog X.w) X.A (eval e X.env) (EP X pins σ Q) X.xe s
def PT (X : Cx) (e : Expr) (t : TT) : Prop :=
  ∀ (pins : List (Addr × Obj)) (s : Shared) (σ : St) (H : Hp) (Q : Bool → Hp → Prop), Inv X pins σ H s → t σ H Q → wpAny (model X.prog X.w) X.A (isTrue e X.env (eval e X.env)) (TP X pins σ Q) X.xe s
def PW (X : Cx) (e : Expr) (t : TT) : Prop :=
  ∀ (whole : Sem Value) (pins : List (Addr × Obj)) (s : Shared) (σ : St) (H : Hp) (Q : Bool → Hp → Prop), Inv X pins σ H s → t σ H Q → wpAny (model X.prog X.w) X.A (isTrue e X.env whole) (TP X pins σ Q) X.xe s
theorem PW.pt {X : Cx} {e : Expr} {t : TT} (h : PW X e t) : PT X e t := h _
def PA (X : Cx) (es : List Expr) (t : TA) : Prop :=
  ∀ (pos : Pos) (pins : List (Addr × Obj)) (s : Shared) (σ : St) (H : Hp) (Q : List V → Hp → Prop), Inv X pins σ H s → t σ H Q → wpAny (model X.prog X.w) X.A (spliced (backTo pos (starEach es X.env))) (AP X pins σ Q) X.xe s
def PS (X : Cx) (st : Stmt) (t : TS) : Prop :=
  ∀ (pins : List (Addr × Obj)) (s : Shared) (σ : St) (H : Hp) (D : Ends), Inv X pins σ H s → t D σ H → wpAny (model X.prog X.w) X.A (exec st X.env) (SP X pins D) X.xe s
def PSs (X : Cx) (st : List Stmt) (t : TS) : Prop :=
  ∀ (pins : List (Addr × Obj)) (s : Shared) (σ : St) (H : Hp) (D : Ends), Inv X pins σ H s → t D σ H → wpAny (model X.prog X.w) X.A (execs st X.env) (SP X pins D) X.xe s
theorem thn {α : Type} {t : Sem α} {Q Q' : α → Shared → Prop} {M : Model} {A : Around} {E : Value → Shared → Prop} {s : Shared} (h : wpAny M A t Q E s) (hQ : ∀ a s, Q a s → Q' a s) : wpAny M A t Q' E s := wpAny_mono h hQ fun _ _ x => x
end L2

namespace L2
open PySem PySem.Spec PyProof.Rows
section
variable {X : Cx}

theorem bin {a b : Expr} {ta tb : TE} (ha : PE X a ta) (hb : PE X b tb) {pins : List (Addr × Obj)} {s : Shared} {σ : St} {H : Hp} {R : V → V → Hp → Prop} (I : Inv X pins σ H s) (h : ta σ H fun x H1 => tb σ H1 fun y H2 => R x y H2)
    {α : Type} {Q : α → Shared → Prop} {f : Value → Value → Sem α}
    (hf : ∀ v u s2 x y H2, Inv X pins σ H2 s2 → RelV x v → RelV y u → R x y H2 → wpAny (model X.prog X.w) X.A (f v u) Q X.xe s2) :
    wpAny (model X.prog X.w) X.A (eval a X.env) (fun v s₁ => wpAny (model X.prog X.w) X.A (eval b X.env) (fun u s₂ => wpAny (model X.prog X.w) X.A (f v u) Q X.xe s₂) X.xe s₁) X.xe s := by
  refine thn (ha pins s σ H _ I h) fun v s1 ⟨x, H1, I1, r1, q1⟩ => ?_
  refine thn (hb pins s1 σ H1 _ I1 q1) fun u s2 ⟨y, H2, I2, r2, q2⟩ => ?_
  exact hf v u s2 x y H2 I2 r1 r2 q2

/-! ### names and constants -/
def tVar (i : Nat) : TE := fun σ H Q => ∃ v, σ[i]? = some (some v) ∧ Q v H
def tC (v : V) : TE := fun _ H Q => Q v H
theorem pe_var {i : Nat} {x : Str} {pos : Pos} (hN : X.N[i]? = some x) (hv : Vis X.env.scope x) (hd : (x == ("__debug__" : Str)) = false := by decide) (hcd : (x == ("__classdict__" : Str)) = false := by decide) : PE X (.Name x pos) (tVar i) := by
  intro pins s σ H Q I h
  obtain ⟨v, e, h⟩ := h
  obtain ⟨m, hn, hl⟩ := I.loc
  obtain ⟨u, r, l⟩ := hl i x v hN e hv
  have fin : EP X pins σ Q u s := ⟨v, H, I, r, h⟩
  rcases l with ⟨hk, hm⟩ | ⟨hk, c, hc, hcell⟩
  · exact wpAny_Name (wpAny_loadName_local I.ok.kind hk hn hm fin) hd
  · rcases hk with hk | hk
    · exact wpAny_Name (wpAny_loadName_cell I.ok.kind hk hc hcell fin) hd
    · exact wpAny_Name (wpAny_loadName_free I.ok.kind hk hc hcell fin hcd) hd
theorem pe_int {i j pos} : PE X (.Constant (.int i) j pos) (tC (.int i)) := fun _ _ _ H _ I h => wpAny_Constant_int ⟨.int i, H, I.tok _, ⟨_, rfl⟩, h⟩
theorem pe_bl {b j pos} : PE X (.Constant (.bool b) j pos) (tC (.bl b)) := fun _ _ _ H _ I h => Constant_bool ⟨.bl b, H, I, rfl, h⟩
theorem pe_non {j pos} : PE X (.Constant .none j pos) (tC .non) := fun _ _ _ H _ I h => Constant_none ⟨.non, H, I, rfl, h⟩
theorem pe_str {x j pos} : PE X (.Constant (.str x) j pos) (tC (.str x)) := fun _ _ _ H _ I h => Calls.Constant_str ⟨.str x, H, I.tok _, ⟨_, rfl⟩, h⟩

def Gl (X : Cx) (x : Str) : Prop := X.env.kindOf x = some .globalImplicit
theorem ld_glob {E : Value → Shared → Prop} {pins : List (Addr × Obj)} {s : Shared} {σ : St} {H : Hp} {x : Str} {u : Value} {pos : Pos} {Q : Value → Shared → Prop} (I : Inv X pins σ H s) (hg : Gl X x) (hm : X.mg x = some u) (h : Q u s)
    (hd : (x == ("__debug__" : Str)) = false := by decide) : wpAny (model X.prog X.w) X.A (eval (.Name x pos) X.env) Q E s :=
  Calls.Name_function_global I.ok.kind hg (Calls.loadGlobal_global (by rw [I.ok.glob]; exact I.mod.glob.keeps I.bk) hm h) hd
theorem ld_blt {E : Value → Shared → Prop} {pins : List (Addr × Obj)} {s : Shared} {σ : St} {H : Hp} {x : Str} {u : Value} {pos : Pos} {Q : Value → Shared → Prop} (I : Inv X pins σ H s) (hg : Gl X x) (hm : X.mg x = none) (hv : bootBuiltins x = some u) (h : Q u s)
    (hn : x ≠ "__name__" := by decide) (hd : (x == ("__debug__" : Str)) = false := by decide) : wpAny (model X.prog X.w) X.A (eval (.Name x pos) X.env) Q E s := by
  obtain ⟨mb, h1, h2⟩ := I.mod.blt
  exact Calls.Name_function_global I.ok.kind hg (Calls.loadGlobal_builtin (by rw [I.ok.glob]; exact I.mod.glob.keeps I.bk) hm (by rw [I.ok.blt]; exact h1.keeps I.bk) ((h2 x hn).trans hv) h) hd
theorem pe_glob {x : Str} {v : V} {u : Value} {pos : Pos} (hg : Gl X x) (hm : X.mg x = some u) (r : RelV v u) (hd : (x == ("__debug__" : Str)) = false := by decide) : PE X (.Name x pos) (tC v) :=
  fun _ _ _ H _ I h => ld_glob I hg hm ⟨v, H, I, r, h⟩ hd
theorem pe_bltn {x : Str} {v : V} {u : Value} {pos : Pos} (hg : Gl X x) (hm : X.mg x = none) (hv : bootBuiltins x = some u) (r : RelV v u) (hn : x ≠ "__name__" := by decide) (hd : (x == ("__debug__" : Str)) = false := by decide) : PE X (.Name x pos) (tC v) :=
  fun _ _ _ H _ I h => ld_blt I hg hm hv ⟨v, H, I, r, h⟩ hn hd

/-! ### arithmetic -/
variable {a b : Expr} {ta tb : TE} {pos : Pos}
/-! ### comparisons -/
def PC (X : Cx) (op : CmpOp) (a b : Expr) (t : TE) : Prop :=
  ∀ (pins : List (Addr × Obj)) (s : Shared) (σ : St) (H : Hp) (Q : VK), Inv X pins σ H s → t σ H Q →
    wpAny (model X.prog X.w) X.A (eval a X.env) (fun v s₁ => wpAny (model X.prog X.w) X.A (eval b X.env) (fun u s₂ => wpAny (model X.prog X.w) X.A (compareOp op v u) (EP X pins σ Q) X.xe s₂) X.xe s₁) X.xe s
def tB (t : TE) : TT := fun σ H Q => t σ H fun x H1 => ∃ c, x = .bl c ∧ Q c H1
theorem pe_cmp {op : CmpOp} {t : TE} (h : PC X op a b t) (h1 : behindInMarks op b = false := by first | exact nobehind _ (by decide) (by decide) | rfl) : PE X (.Compare a [op] [b] pos) t := fun pins s σ H Q I hw => wpAny_Compare1 (h pins s σ H Q I hw) h1
theorem pt_cmp {op : CmpOp} {t : TE} (h : PC X op a b t) (h1 : behindInMarks op b = false := by first | exact nobehind _ (by decide) (by decide) | rfl) : PT X (.Compare a [op] [b] pos) (tB t) := by
  intro pins s σ H Q I hw
  refine wpAny_isTrue_Compare1 (thn (h pins s σ H _ I hw) fun v s1 h1 => thn h1 fun u s2 h2 => thn h2 fun c s3 ⟨x, H1, I1, r1, q1⟩ => ?_) h1
  obtain ⟨d, rfl, q⟩ := q1
  cases r1
  exact wpAny_truthy_bool ⟨H1, I1, q⟩
theorem pt_val {e : Expr} {t : TE} (h : PE X e t) (he : ∀ whole, isTrue e X.env whole = (do let v ← whole; standAt e.pos; holding [v] (truthy v)) := by intro _; rfl) : PT X e (tB t) := by
  intro pins s σ H Q I hw
  refine isTrue_plain (thn (h pins s σ H _ I hw) fun v s1 ⟨x, H1, I1, r1, q1⟩ => ?_) (he _)
  obtain ⟨d, rfl, q⟩ := q1
  cases r1
  exact wpAny_truthy_bool ⟨H1, I1, q⟩

/-! ### and, or, not -/
variable {tA tB' : TT} {rest : List Expr}
def tAnd (t u : TT) : TT := fun σ H Q => t σ H fun c H1 => if c = true then u σ H1 Q else Q false H1
def tOr (t u : TT) : TT := fun σ H Q => t σ H fun c H1 => if c = true then Q true H1 else u σ H1 Q
def tNot (t : TT) : TT := fun σ H Q => t σ H fun c H1 => Q (!c) H1
theorem pw_and1 (ha : PT X a tA) : PW X (.BoolOp .And [a] pos) tA := by
  intro wh pins s σ H Q I h
  refine isTrue_and (thn (ha pins s σ H Q I h) fun c s1 e => ?_)
  cases c with
  | true => exact isTrue_and_nil e
  | false => exact e
theorem pw_or1 (ha : PT X a tA) : PW X (.BoolOp .Or [a] pos) tA := by
  intro wh pins s σ H Q I h
  refine isTrue_or (thn (ha pins s σ H Q I h) fun c s1 e => ?_)
  cases c with
  | false => exact isTrue_or_nil e
  | true => exact e
theorem pw_and (ha : PT X a tA) (hb : PW X (.BoolOp .And (b :: rest) pos) tB') : PW X (.BoolOp .And (a :: b :: rest) pos) (tAnd tA tB') := by
  intro wh pins s σ H Q I h
  refine isTrue_and (thn (ha pins s σ H _ I h) fun c s1 ⟨H1, I1, q1⟩ => ?_)
  cases c with
  | true => exact hb wh pins s1 σ H1 Q I1 q1
  | false => exact ⟨H1, I1, q1⟩
theorem pw_or (ha : PT X a tA) (hb : PW X (.BoolOp .Or (b :: rest) pos) tB') : PW X (.BoolOp .Or (a :: b :: rest) pos) (tOr tA tB') := by
  intro wh pins s σ H Q I h
  refine isTrue_or (thn (ha pins s σ H _ I h) fun c s1 ⟨H1, I1, q1⟩ => ?_)
  cases c with
  | true => exact ⟨H1, I1, q1⟩
  | false => exact hb wh pins s1 σ H1 Q I1 q1
theorem pt_not (ha : PT X a tA) : PT X (.UnaryOp .Not a pos) (tNot tA) := by
  intro pins s σ H Q I h
  exact isTrue_not (ha pins s σ H (fun c H1 => Q (!c) H1) I h)
def tAndV (ta tb : TE) : TE := fun σ H Q => ta σ H fun x H1 => ∃ c, x = .bl c ∧ if c = true then tb σ H1 Q else Q (.bl false) H1
def tNotV (ta : TE) : TE := fun σ H Q => ta σ H fun x H1 => ∃ c, x = .bl c ∧ Q (.bl (!c)) H1
theorem pe_one {op} {t : TE} (h : PE X a t) : PE X (.BoolOp op [a] pos) t := fun pins s σ H Q I hw => BoolOp_one (h pins s σ H Q I hw)
theorem pe_and (ha : PE X a ta) (hb : PE X (.BoolOp .And (b :: rest) pos) tb) : PE X (.BoolOp .And (a :: b :: rest) pos) (tAndV ta tb) := by
  intro pins s σ H Q I h
  refine BoolOp_and (thn (ha pins s σ H _ I h) fun v s1 ⟨x, H1, I1, r1, q1⟩ => ?_)
  obtain ⟨c, rfl, q1⟩ := q1
  cases r1
  refine wpAny_truthy_bool ?_
  cases c with
  | true => exact hb pins s1 σ H1 Q I1 q1
  | false => exact ⟨.bl false, H1, I1, rfl, q1⟩
theorem pe_not (ha : PE X a ta) : PE X (.UnaryOp .Not a pos) (tNotV ta) := by
  intro pins s σ H Q I h
  refine UnaryOp_ (thn (ha pins s σ H _ I h) fun v s1 ⟨x, H1, I1, r1, q1⟩ => ?_)
  obtain ⟨c, rfl, q1⟩ := q1
  cases r1
  exact not_of (wpAny_truthy_bool ⟨.bl (!c), H1, I1, rfl, q1⟩)
def tIf (t : TT) (ta tb : TE) : TE := fun σ H Q => t σ H fun c H1 => if c = true then ta σ H1 Q else tb σ H1 Q
theorem pe_ifExp {c : Expr} (hc : PT X c tA) (ha : PE X a ta) (hb : PE X b tb) : PE X (.IfExp c a b pos) (tIf tA ta tb) := by
  intro pins s σ H Q I h
  refine wpAny_IfExp (thn (hc pins s σ H _ I h) fun d s1 ⟨H1, I1, q1⟩ => ?_)
  cases d with
  | true => exact ha pins s1 σ H1 Q I1 q1
  | false => exact hb pins s1 σ H1 Q I1 q1
end
end L2

namespace L2
open PySem PySem.Spec PyProof.Rows

/-! ### a list, a tuple that is read: tracked, frozen, or an object of the module -/
def SqL (K : PySem.W.Frag) (H : Hp) (a : Addr) (xs : List V) : Prop :=
  Rd H a (.lst xs) ∨
    ∃ (o : Obj) (its : Array Value) (n : Nat), K.lookup a = some o ∧ o.cls = .type "list" ∧ o.dict = none ∧ o.data = .seq its n ∧ its.size ≤ sizeLine ∧ Vals xs its.toList
def SqT (K : PySem.W.Frag) (H : Hp) (a : Addr) (xs : List V) : Prop :=
  Rd H a (.tup xs) ∨
    ∃ (o : Obj) (its : Array Value) (n : Nat), K.lookup a = some o ∧ o.cls = .type "tuple" ∧ o.data = .seq its n ∧ its.size ≤ sizeLine ∧ Vals xs its.toList
def absV : Value → Option V
  | .none => some .non
  | .bool b => some (.bl b)
  | .int i _ => some (.int i)
  | .str x _ => some (.str x)
  | .bytes b _ => some (.byt b)
  | .float b _ => some (.flt b)
  | .ref a => some (.ref a)
  | .type n => some (.ty n)
  | _ => none
theorem RelV.abs {x : V} {u : Value} (r : RelV x u) : absV u = some x := by
  cases x with
  | non => cases r; rfl
  | bl _ => cases r; rfl
  | int _ => obtain ⟨t, rfl⟩ := r; rfl
  | str _ => obtain ⟨t, rfl⟩ := r; rfl
  | byt _ => obtain ⟨t, rfl⟩ := r; rfl
  | flt _ => obtain ⟨t, rfl⟩ := r; rfl
  | ref _ => cases r; rfl
  | ty _ => cases r; rfl
theorem RelV.inj {x y : V} {u : Value} (r : RelV x u) (q : RelV y u) : x = y := Option.some.inj (r.abs.symm.trans q.abs)
theorem Vals.inj {xs ys : List V} {us : List Value} (h : Vals xs us) (h' : Vals ys us) : xs = ys := by
  induction h generalizing ys with
  | nil => cases h'; rfl
  | cons r t ih => cases h' with
    | cons r' t' => rw [r.inj r', ih t']
section
variable {X : Cx} {pins : List (Addr × Obj)} {σ : St} {H : Hp} {s : Shared} {a : Addr} {xs ys : List V}
theorem SqL.of {K : PySem.W.Frag} (h : H a = some (.lst xs)) : SqL K H a xs := .inl (.inl h)
theorem SqT.of {K : PySem.W.Frag} (h : H a = some (.tup xs)) : SqT K H a xs := .inl (.inl h)
theorem Inv.list (I : Inv X pins σ H s) (h : SqL X.K H a xs) : ∃ its : List Value, Vals xs its ∧ PlainL s.heap a its.toArray ∧ xs.length ≤ sizeLine := by
  rcases h with h | ⟨o, its, n, hk, hc, hd, hs, hz, r⟩
  · obtain ⟨z, its, n, r, e⟩ := h.ok I.hok
    exact ⟨its, r, ⟨_, n, e, rfl, rfl, rfl⟩, z⟩
  · refine ⟨its.toList, r, ⟨o, n, I.kIn a o hk, hc, hd, by simpa using hs⟩, ?_⟩
    have e := r.length
    simp only [Array.length_toList] at e
    omega
theorem Inv.tuple (I : Inv X pins σ H s) (h : SqT X.K H a xs) : ∃ its : List Value, Vals xs its ∧ IsTup s.heap a its.toArray ∧ xs.length ≤ sizeLine := by
  rcases h with h | ⟨o, its, n, hk, hc, hs, hz, r⟩
  · obtain ⟨z, its, r, p⟩ := h.ok I.hok
    exact ⟨its, r, p, z⟩
  · refine ⟨its.toList, r, ⟨o, I.kIn a o hk, hc, n, by simpa using hs⟩, ?_⟩
    have e := r.length
    simp only [Array.length_toList] at e
    omega
theorem Inv.list_inj (I : Inv X pins σ H s) (h : SqL X.K H a xs) (h' : SqL X.K H a ys) : xs = ys := by
  obtain ⟨its, r, ⟨o, n, e, _, _, d⟩, _⟩ := I.list h
  obtain ⟨its', r', ⟨o', n', e', _, _, d'⟩, _⟩ := I.list h'
  rw [e] at e'; cases e'
  rw [d] at d'
  injection d' with d1 _
  have : its = its' := by simpa using congrArg Array.toList d1
  subst this
  exact r.inj r'
end

/-! ### another wish about exceptions -/
abbrev Cx.wish (X : Cx) (E : Value → Shared → Prop) : Cx := { X with xe := E }
abbrev Cx.nox (X : Cx) : Cx := X.wish fun _ _ => False
theorem Cx.Ok.wish {X : Cx} (ok : X.Ok) (E : Value → Shared → Prop) : (X.wish E).Ok :=
  ⟨ok.mod, ok.kind, ok.glob, ok.blt, ok.above, ok.inj, ok.has, ok.cab, ok.hd, ok.frames, ok.stk, ok.exf, ok.bs, ok.bsz, ok.noex, ok.exfs, ok.funs, ok.frf⟩
theorem Cx.Ok.unwish {X : Cx} {E : Value → Shared → Prop} (ok : (X.wish E).Ok) : X.Ok :=
  ⟨ok.mod, ok.kind, ok.glob, ok.blt, ok.above, ok.inj, ok.has, ok.cab, ok.hd, ok.frames, ok.stk, ok.exf, ok.bs, ok.bsz, ok.noex, ok.exfs, ok.funs, ok.frf⟩
section
variable {X : Cx} {pins : List (Addr × Obj)} {σ : St} {H : Hp} {s : Shared} {E : Value → Shared → Prop}
theorem Inv.wish (I : Inv X pins σ H s) (E : Value → Shared → Prop) : Inv (X.wish E) pins σ H s := ⟨I.ok.wish E, I.os, I.bare, I.base, I.loc, I.cell, I.free, I.freeC, I.pin, I.hok, I.len⟩
theorem Inv.unwish (I : Inv (X.wish E) pins σ H s) : Inv X pins σ H s := ⟨I.ok.unwish, I.os, I.bare, I.base, I.loc, I.cell, I.free, I.freeC, I.pin, I.hok, I.len⟩
theorem SP.unwish {D : Ends} {f : Flow} {s' : Shared} (h : SP (X.wish E) pins D f s') : SP X pins D f s' := by
  cases f with
  | next => obtain ⟨σ', H', I, q⟩ := h; exact ⟨σ', H', I.unwish, q⟩
  | brk => obtain ⟨σ', H', I, q⟩ := h; exact ⟨σ', H', I.unwish, q⟩
  | cont => obtain ⟨σ', H', I, q⟩ := h; exact ⟨σ', H', I.unwish, q⟩
  | ret u => obtain ⟨v, σ', H', I, r, q⟩ := h; exact ⟨v, σ', H', I.unwish, r, q⟩
theorem PSs.nox {st : List Stmt} {t : TS} (h : PSs X.nox st t) : PSs X st t := fun pins s σ H D I hw =>
  wpAny_mono (h pins s σ H D (I.wish _) hw) (fun _ _ q => q.unwish) fun _ _ z => False.elim z
end

/-! ### blocks and small statements -/
section
variable {X : Cx} {st : Stmt} {rest : List Stmt} {t u : TS} {e : Expr} {te : TE} {pos : Pos}
def tNext : TS := fun D σ H => D.nx σ H
def tSeq (t u : TS) : TS := fun D σ H => t { D with nx := u D } σ H
theorem pss_nil : PSs X [] tNext := fun _ _ σ H _ I h => wpAny_execs_nil ⟨σ, H, I, h⟩
theorem pss_cons (h1 : PS X st t) (h2 : PSs X rest u) : PSs X (st :: rest) (tSeq t u) := by
  intro pins s σ H D I h
  refine wpAny_execs_cons (thn (h1 pins s σ H { D with nx := u D } I h) fun f s1 q => ?_)
  cases f with
  | next =>
    obtain ⟨σ', H', I', q⟩ := q
    exact h2 pins s1 σ' H' D I' q
  | ret v => exact q
  | brk => exact q
  | cont => exact q
theorem pss_one (h1 : PS X st t) : PSs X [st] t := by
  intro pins s σ H D I h
  refine wpAny_execs_cons (thn (h1 pins s σ H D I h) fun f s1 q => ?_)
  cases f with
  | next => exact wpAny_execs_nil q
  | ret v => exact q
  | brk => exact q
  | cont => exact q
theorem Inv.quiet {pins : List (Addr × Obj)} {σ : St} {H : Hp} {s : Shared} (I : Inv X pins σ H s) : interactive X.env = false := by simp [interactive, I.ok.kind]
def tDrop (te : TE) : TS := fun D σ H => te σ H fun _ H1 => D.nx σ H1
theorem ps_expr (he : PE X e te) (hs : swapsWith e none pos.line X.env = pure false := by rfl) : PS X (.Expr e pos) (tDrop te) := by
  intro pins s σ H D I h
  exact wpAny_Expr_any (thn (he pins s σ H _ I h) fun v s1 ⟨x, H1, I1, r1, q1⟩ => ⟨σ, H1, I1, q1⟩) I.quiet hs
def tRet (te : TE) : TS := fun D σ H => te σ H D.rt
theorem ps_ret (he : PE X e te) : PS X (.Return (some e) pos) (tRet te) := by
  intro pins s σ H D I h
  exact wpAny_Return_some (thn (he pins s σ H _ I h) fun v s1 ⟨x, H1, I1, r1, q1⟩ => ⟨x, σ, H1, I1, r1, q1⟩)
def tIfS (c : TT) (t u : TS) : TS := fun D σ H => c σ H fun b H1 => if b = true then t D σ H1 else u D σ H1
theorem ps_if {c : Expr} {a b : List Stmt} {tc : TT} (hc : PT X c tc) (ha : PSs X a t) (hb : PSs X b u) : PS X (.If c a b pos) (tIfS tc t u) := by
  intro pins s σ H D I h
  refine wpAny_If (thn (hc pins s σ H _ I h) fun d s1 ⟨H1, I1, q1⟩ => ?_)
  cases d with
  | true => exact ha pins s1 σ H1 D I1 q1
  | false => exact hb pins s1 σ H1 D I1 q1
end

/-! ### targets -/
abbrev TG := V → St → Hp → (St → Hp → Prop) → Prop
abbrev TGs := List V → St → Hp → (St → Hp → Prop) → Prop
def PG (X : Cx) (target : Expr) (t : TG) : Prop :=
  ∀ (pins : List (Addr × Obj)) (s : Shared) (σ : St) (H : Hp) (v : V) (u : Value) (Q : St → Hp → Prop), Inv X pins σ H s → RelV v u → t v σ H Q →
    wpAny (model X.prog X.w) X.A (assign target X.env u) (fun _ s' => ∃ σ' H', Inv X pins σ' H' s' ∧ Q σ' H') X.xe s
def PGs (X : Cx) (ts : List Expr) (t : TGs) : Prop :=
  ∀ (pins : List (Addr × Obj)) (s : Shared) (σ : St) (H : Hp) (vs : List V) (us : List Value) (Q : St → Hp → Prop), Inv X pins σ H s → Vals vs us → t vs σ H Q →
    wpAny (model X.prog X.w) X.A (assignInOrder ((assignEach ts X.env).map (·.2)) us) (fun _ s' => ∃ σ' H', Inv X pins σ' H' s' ∧ Q σ' H') X.xe s
abbrev TSet := V → V → V → Hp → (Hp → Prop) → Prop
def PSet (X : Cx) (t : TSet) : Prop :=
  ∀ (pins : List (Addr × Obj)) (s : Shared) (σ : St) (H : Hp) (o i v : V) (ov iv u : Value) (Q : Hp → Prop), Inv X pins σ H s → RelV o ov → RelV i iv → RelV v u → t o i v H Q →
    wpAny (model X.prog X.w) X.A (setItem ov iv u) (fun _ s' => ∃ H', Inv X pins σ H' s' ∧ Q H') X.xe s
section
variable {X : Cx} {pos : Pos}
def gName (i : Nat) : TG := fun v σ H Q => Q (σ.set i (some v)) H
theorem pg_name {i : Nat} {x : Str} (hN : X.N.Nodup) (hi : X.N[i]? = some x) (hx : Loc X.env.scope x) (hf : X.fn x = true ∨ X.env.scope.names.lookup x = some .local := by first | exact .inl rfl | exact .inr rfl | assumption) : PG X (.Name x pos) (gName i) := by
  intro pins s σ H v u Q I r h
  exact wpAny_assign_Name (store_ok I hN hi hx r (fun s' I' => ⟨_, H, I', h⟩) hf)
def gNil : TGs := fun vs σ H Q => vs = [] ∧ Q σ H
def gCons (t : TG) (u : TGs) : TGs := fun vs σ H Q => ∃ v r, vs = v :: r ∧ t v σ H fun σ' H' => u r σ' H' Q
theorem pgs_nil : PGs X [] gNil := by
  intro pins s σ H vs us Q I r h
  obtain ⟨e, h⟩ := h
  subst e
  cases r
  exact assignInOrder_nil ⟨σ, H, I, h⟩
theorem pgs_cons {e : Expr} {es : List Expr} {t : TG} {u : TGs} (h1 : PG X e t) (h2 : PGs X es u)
    (hs : (assignEach (e :: es) X.env).map (·.2) = assign e X.env :: (assignEach es X.env).map (·.2) := by rfl) : PGs X (e :: es) (gCons t u) := by
  intro pins s σ H vs us Q I r h
  obtain ⟨v, vr, e1, h⟩ := h
  subst e1
  cases r with
  | cons r rr =>
    rw [hs]
    refine assignInOrder_cons (thn (h1 pins s σ H _ _ _ I r h) fun _ s1 ⟨σ1, H1, I1, q1⟩ => ?_)
    exact h2 pins s1 σ1 H1 _ _ Q I1 rr q1
def gTup (K : PySem.W.Frag) (n : Nat) (t : TGs) : TG := fun v σ H Q => ∃ a xs, v = .ref a ∧ SqT K H a xs ∧ xs.length = n ∧ t xs σ H Q
theorem pg_tup {es : List Expr} {k : Nat} {t : TGs} {n : Nat} (hc : X.calm = true) (h : PGs X es t)
    (hn : (assignEach es X.env).length = n := by rfl) (hst : (assignEach es X.env).findIdx? (·.1) = none := by rfl) : PG X (.Tuple es k pos) (gTup X.K n t) := by
  intro pins s σ H v u Q I r hw
  obtain ⟨a, xs, e1, hq, hl, hw⟩ := hw
  subst e1
  cases r
  obtain ⟨its, rv, ht, hz⟩ := I.tuple hq
  refine assign_Tuple_tuple (I.ok.hd hc) ht (by simp [hn, ← hl, rv.length]) hst fun h' hx => ?_
  have I1 : Inv X pins σ H { s with heap := h' } := I.kept (t' := s.toks) fun b o e => hx b o (Nat.ne_of_lt (Heap.lt_size e)) e
  exact h pins _ σ H xs _ Q I1 (by simpa using rv) hw
def gSub (to ti : TE) (t : TSet) : TG := fun v σ H Q => to σ H fun o H1 => ti σ H1 fun i H2 => t o i v H2 fun H3 => Q σ H3
theorem pg_sub {o i : Expr} {to ti : TE} {t : TSet} (ho : PE X o to) (hi : PE X i ti) (hs : PSet X t)
    (ha : ∀ v, assign (.Subscript o i pos) X.env v = (do
      let ov ← holding [v] (eval o X.env)
      let iv ← holding [v, ov] (eval i X.env)
      standAt pos
      holding [v, ov, iv] (setItem ov iv v)
      release [v, ov, iv] []) := by intro _; rfl) : PG X (.Subscript o i pos) (gSub to ti t) := by
  intro pins s σ H v u Q I r h
  rw [ha]
  refine wpAny_bind (wpAny_holding (thn (ho pins s σ H _ I h) fun ov s1 ⟨x, H1, I1, r1, q1⟩ => ?_))
  refine wpAny_bind (wpAny_holding (thn (hi pins s1 σ H1 _ I1 q1) fun iv s2 ⟨y, H2, I2, r2, q2⟩ => ?_))
  refine wpAny_bind (wpAny_standAt (wpAny_bind (wpAny_holding (thn (hs pins s2 σ H2 x y v ov iv u _ I2 r1 r2 r q2) fun _ s3 ⟨H3, I3, q3⟩ => ?_))))
  exact wpAny_release ⟨σ, H3, I3, q3⟩
def tAsg (te : TE) (g : TG) : TS := fun D σ H => te σ H fun x H1 => g x σ H1 D.nx
theorem ps_asg {tg e : Expr} {te : TE} {g : TG} (he : PE X e te) (hg : PG X tg g) (hs : swapsWithSole [tg] e pos.line X.env = pure false := by rfl) (hw : swappedStores [tg] e X.env = pure none := by rfl)
    (h1 : (assignEach [tg] X.env).map (·.2) = [assign tg X.env] := by rfl) : PS X (.Assign [tg] e pos) (tAsg te g) := by
  intro pins s σ H D I h
  refine wpAny_Assign_stores (thn (he pins s σ H _ I h) fun v s1 ⟨x, H1, I1, r1, q1⟩ => ?_) hs hw
  rw [h1]
  exact thn (hg pins s1 σ H1 x v _ I1 r1 q1) fun _ s2 q => q
theorem ps_set {i : Nat} {x : Str} {e : Expr} {te : TE} {pos' : Pos} (hN : X.N.Nodup) (hi : X.N[i]? = some x) (hx : Loc X.env.scope x) (he : PE X e te) (hs : swapsWith e (some (.Name x pos')) pos.line X.env = pure false := by rfl) (hf : X.fn x = true ∨ X.env.scope.names.lookup x = some .local := by first | exact .inl rfl | exact .inr rfl | assumption) :
    PS X (.Assign [.Name x pos'] e pos) (tAsg te (gName i)) := by
  intro pins s σ H D I h
  refine wpAny_Assign_Name (thn (he pins s σ H _ I h) fun v s1 ⟨y, H1, I1, r1, q1⟩ => ?_) hs
  exact store_ok I1 hN hi hx r1 (fun s2 I2 => ⟨_, H1, I2, q1⟩) hf
end

/-! ### while -/
section
variable {X : Cx} {pos : Pos}
def tWhile (c : TT) (tb : TS) : TS := fun D σ H => ∃ W : Nat → St → Hp → Prop, (∃ m, W m σ H) ∧ ∀ m σ H, W m σ H →
  c σ H fun b H1 => if b = true then ∃ N : St → Hp → Prop, (∀ σ' H', N σ' H' → ∃ m', m' < m ∧ W m' σ' H') ∧ tb { D with nx := N, ct := N, bk := D.nx } σ H1 else D.nx σ H1
theorem ps_while {c : Expr} {body : List Stmt} {tc : TT} {tb : TS} (hp : PassesOwn (model X.prog X.w) X.A X.env X.xe) (hc : PT X c tc) (hb : PSs X body tb) : PS X (.While c body [] pos) (tWhile tc tb) := by
  intro pins s σ H D I h
  obtain ⟨W, ⟨m0, w0⟩, turn⟩ := h
  refine wpAny_While (codeAny_whileLoop (fun n s' => ∃ σ' H', Inv X pins σ' H' s' ∧ W n σ' H') ?_ m0 ⟨σ, H, I, w0⟩)
  rintro n s1 ⟨σ1, H1, I1, w1⟩
  refine wpAny_passesOwn hp (thn (hc pins s1 σ1 H1 _ I1 (turn n σ1 H1 w1)) fun b s2 ⟨H2, I2, q2⟩ => ?_)
  cases b with
  | true =>
    obtain ⟨N, hN, q2⟩ := q2
    rw [if_pos rfl]
    refine wpAny_passesOwn hp (thn (hb pins s2 σ1 H2 _ I2 q2) fun f s3 q3 => ?_)
    cases f with
    | next =>
      obtain ⟨σ3, H3, I3, n3⟩ := q3
      obtain ⟨m', hm, w3⟩ := hN σ3 H3 n3
      exact ⟨m', hm, σ3, H3, I3, w3⟩
    | cont =>
      obtain ⟨σ3, H3, I3, n3⟩ := q3
      obtain ⟨m', hm, w3⟩ := hN σ3 H3 n3
      exact ⟨m', hm, σ3, H3, I3, w3⟩
    | brk => exact q3
    | ret v => exact q3
  | false =>
    rw [if_neg Bool.false_ne_true]
    exact wpAny_execs_nil ⟨σ1, H2, I2, q2⟩
end

/-! ### what a loop or a comprehension walks -/
structure It where
  go : Nat → Hp → Prop
  yld : Nat → Hp → V → Hp → Prop
  stop : Nat → Hp → Prop
def FpOk (X : Cx) (pins : List (Addr × Obj)) (H : Hp) (b : Addr) : Prop :=
  H b = none ∧ b ≠ X.env.locals ∧ b ∉ X.fs ∧ (b ∈ X.ex ∨ X.s₀.heap.objs.size ≤ b) ∧ (∀ x c, X.env.cells.lookup x = some c → c ≠ b) ∧ ∀ p ∈ X.pn ++ pins, p.1 ≠ b
theorem Inv.fpOk {X : Cx} {pins : List (Addr × Obj)} {σ : St} {H H' : Hp} {s : Shared} {b : Addr} (I : Inv X pins σ H s) (hb : s.heap.objs.size ≤ b) (hn : H' b = none) : FpOk X pins H' b := by
  refine ⟨hn, Nat.ne_of_gt (Nat.lt_of_lt_of_le I.lt hb), I.nofs hb, .inr (Nat.le_trans I.sz hb), fun x c e z => ?_, fun p hp z => ?_⟩
  · obtain ⟨v, q⟩ := I.cell x c e
    exact absurd (Nat.lt_of_lt_of_le q.lt (by rw [z]; exact hb)) (Nat.lt_irrefl _)
  · exact absurd (Nat.lt_of_lt_of_le (Heap.lt_size (I.pin p hp).1) (by rw [z]; exact hb)) (Nat.lt_irrefl _)
structure Turn (P : Program) (w : World) (K : PySem.W.Frag) (tg : Expr) (J : It) (fp : List Addr) (it : Addr) (tn : Nat → Heap → Prop) : Prop where
  mem : it ∈ fp
  obj : ∀ i h, tn i h → ∀ b ∈ fp, ∃ o, h.get? b = some o ∧ ∀ v, o.data ≠ .cell v
  keep : ∀ i h h', tn i h → (∀ b ∈ fp, ∀ o, h.get? b = some o → h'.get? b = some o) → tn i h'
  item : ∀ (X : Cx), X.prog = P → X.w = w → X.K = K → X.calm = true → ∀ (i : Nat) (pins : List (Addr × Obj)) (s : Shared) (σ : St) (H : Hp) (E : Value → Shared → Prop), Inv X pins σ H s → (∀ b ∈ fp, FpOk X pins H b) → tn i s.heap → J.go i H →
    wpAny (model P w) X.A (pyNext (.ref it)) (fun r s1 => ∃ u, r = some u ∧
      wpAny (model P w) X.A (letOwnedTupleGo tg (.ref it) u) (fun _ s2 => ∃ x H', Inv X pins σ H' s2 ∧ RelV x u ∧ J.yld i H x H' ∧ tn (i + 1) s2.heap ∧ ∀ b ∈ fp, H' b = none) E s1) E s
  done : ∀ (X : Cx), X.prog = P → X.w = w → X.K = K → X.calm = true → ∀ (i : Nat) (pins : List (Addr × Obj)) (s : Shared) (σ : St) (H : Hp) (E : Value → Shared → Prop), Inv X pins σ H s → (∀ b ∈ fp, FpOk X pins H b) → tn i s.heap → J.stop i H →
    wpAny (model P w) X.A (pyNext (.ref it)) (fun r s1 => r = none ∧ Inv X pins σ H s1) E s
  self : ∀ (A : Around) (i : Nat) (s : Shared) (Q : Value → Shared → Prop) (E : Value → Shared → Prop), tn i s.heap → Q (.ref it) s → wpAny (model P w) A (pyIter (.ref it)) Q E s
abbrev TI := St → Hp → (It → Hp → Prop) → Prop
def PIE (X : Cx) (pins : List (Addr × Obj)) (σ : St) (tg : Expr) (R : It → Hp → Prop) (itv : Value) (s2 : Shared) : Prop :=
  ∃ (it : Addr) (fp : List Addr) (tn : Nat → Heap → Prop) (J : It) (H' : Hp), itv = .ref it ∧ Inv X pins σ H' s2 ∧ Turn X.prog X.w X.K tg J fp it tn ∧ tn 0 s2.heap ∧ (∀ b ∈ fp, FpOk X pins H' b) ∧ R J H'
def PI (X : Cx) (tg iter : Expr) (wi : TI) : Prop :=
  ∀ (pins : List (Addr × Obj)) (s : Shared) (σ : St) (H : Hp) (R : It → Hp → Prop), Inv X pins σ H s → wi σ H R →
    wpAny (model X.prog X.w) X.A (eval iter X.env) (fun v s1 => wpAny (model X.prog X.w) X.A (pyIter v) (PIE X pins σ tg R) X.xe s1) X.xe s

theorem go_of {M : Model} {A : Around} {E : Value → Shared → Prop} {s : Shared} {tg : Expr} {it : Addr} {u : Value} {o : Obj} {n : String} {vs : Array Value} {Q : Unit → Shared → Prop} (ho : s.heap.get? it = some o) (hc : o.cls = .type n) (hd : o.data = .fields vs)
    (hn : ["enumerate", "zip", "dict_itemiterator", "dict_reverseitemiterator", "odict_iterator", "itertools.zip_longest", "itertools.pairwise"].contains n = false) (hQ : Q () s) : wpAny M A (letOwnedTupleGo tg (.ref it) u) Q E s := by
  unfold letOwnedTupleGo
  cases tg <;> first
    | exact wpAny_pure hQ
    | (cases u <;> first
        | exact wpAny_pure hQ
        | (refine wpAny_bind (wpAny_load ho ?_)
           rw [hc, hd]
           show wpAny M A (if (["enumerate", "zip", "dict_itemiterator", "dict_reverseitemiterator", "odict_iterator", "itertools.zip_longest", "itertools.pairwise"].contains n && vs[0]? == some (rawInt _)) = true then _ else _) Q E s
           rw [if_neg (by intro h; rw [hn, Bool.false_and] at h; cases h)]
           exact wpAny_pure hQ))

def Itl (K : PySem.W.Frag) (a : Addr) : It :=
  ⟨fun i H => ∃ xs x, SqL K H a xs ∧ xs[i]? = some x, fun i H x H' => H' = H ∧ ∀ xs, SqL K H a xs → xs[i]? = some x, fun i H => ∃ xs, SqL K H a xs ∧ xs.length ≤ i⟩
def Itr (lo : Int) (n : Nat) : It := ⟨fun i _ => i < n, fun i H x H' => H' = H ∧ x = .int (lo + i), fun i _ => n ≤ i⟩
theorem turn_list {P : Program} {w : World} {K : PySem.W.Frag} {tg : Expr} (a it : Addr) : Turn P w K tg (Itl K a) [it] it (fun i h => h.IsListIter it a i) where
  mem := by simp
  obj := fun i h st b hb => by
    have e : b = it := by simpa using hb
    subst e
    obtain ⟨o, e, c, d⟩ := st
    exact ⟨o, e, fun v z => by rw [d] at z; cases z⟩
  keep := fun i h h' st k => st.at fun o e => k it (by simp) o e
  item := by
    intro X hP hw hK hc i pins s σ H E I hf st hg
    subst hP hw hK
    obtain ⟨xs, x, hq, hx⟩ := hg
    obtain ⟨its, rv, p, hz⟩ := I.list hq
    obtain ⟨u, hu, ru⟩ := rv.get hx
    obtain ⟨f0, f1, f2, f3, f4, f5⟩ := hf it (by simp)
    refine wpAny_pyNext_list_item st p.isList (x := u) (by simpa using hu) fun h' st' sb => ?_
    have I1 : Inv X pins σ H { s with heap := h' } := I.turned (t' := s.toks) (fun b o hb e => (sb.2 b hb).trans e) f0 f1 f3 f4 f5
    obtain ⟨o, e, c, d⟩ := id st'
    exact ⟨u, rfl, go_of (s := { s with heap := h' }) e c d (by decide) ⟨x, H, I1, ru, ⟨rfl, fun ys hy => by rw [I.list_inj hy hq]; exact hx⟩, st', fun b hb => (hf b hb).1⟩⟩
  done := by
    intro X hP hw hK hc i pins s σ H E I hf st hg
    subst hP hw hK
    obtain ⟨xs, hq, hx⟩ := hg
    obtain ⟨its, rv, p, hz⟩ := I.list hq
    obtain ⟨f0, f1, f2, f3, f4, f5⟩ := hf it (by simp)
    have hl := rv.length
    exact wpAny_pyNext_list_end (I.ok.hd hc) st p.isList (by simp; omega) fun h' eb => ⟨rfl, I.turned (t' := s.toks) (fun b o hb e => eb b o hb e) f0 f1 f3 f4 f5⟩
  self := fun _ _ _ _ _ st h => wpAny_pyIter_listiter st h
theorem turn_range {P : Program} {w : World} {K : PySem.W.Frag} {tg : Expr} (it : Addr) (lo : Int) (n : Nat) : Turn P w K tg (Itr lo n) [it] it (fun i h => IsRangeIter h it (lo + (i : Nat) * 1) ((n : Int) - (i : Nat)) 1) where
  mem := by simp
  obj := fun i h st b hb => by
    have e : b = it := by simpa using hb
    subst e
    exact ⟨_, st, fun v z => by
      have z' : Data.fields _ = Data.cell v := z
      cases z'⟩
  keep := fun i h h' st k => k it (by simp) _ st
  item := by
    intro X hP hw hK hc i pins s σ H E I hf st hg
    subst hP hw hK
    obtain ⟨f0, f1, f2, f3, f4, f5⟩ := hf it (by simp)
    have W := Walks.range (prog := X.prog) (w := X.w) (I.ok.hd hc) it lo 1 n
    refine W.item i s _ _ hg st fun v h' tk hv st' kk => ?_
    obtain ⟨t, rfl⟩ := hv
    have I1 : Inv X pins σ H { s with heap := h', toks := tk } := I.turned (fun b o hb e => kk b o (by simpa using hb) e) f0 f1 f3 f4 f5
    refine ⟨_, rfl, go_of (s := { s with heap := h', toks := tk }) (n := "range_iterator") st' rfl rfl (by decide) ⟨.int (lo + i), H, I1, ⟨t, ?_⟩, ⟨rfl, rfl⟩, st', fun b hb => (hf b hb).1⟩⟩
    rw [Int.mul_one]
  done := by
    intro X hP hw hK hc i pins s σ H E I hf st hg
    subst hP hw hK
    obtain ⟨f0, f1, f2, f3, f4, f5⟩ := hf it (by simp)
    exact wpAny_pyNext_range_end (I.ok.hd hc) st (by have : n ≤ i := hg; omega) fun h' eb => ⟨rfl, I.turned (t' := s.toks) (fun b o hb e => eb b o hb e) f0 f1 f3 f4 f5⟩
  self := fun _ _ _ _ _ st h => wpAny_pyIter_rangeiter st h
end L2

namespace L2
open PySem PySem.Spec PyProof.Rows
section
variable {X : Cx} {tg : Expr}
def iList (K : PySem.W.Frag) (tl : TE) : TI := fun σ H R => tl σ H fun x H1 => ∃ a, x = .ref a ∧ (∃ xs, SqL K H1 a xs) ∧ R (Itl K a) H1
theorem pi_list {l : Expr} {tl : TE} (hl : PE X l tl) : PI X tg l (iList X.K tl) := by
  intro pins s σ H R I h
  refine thn (hl pins s σ H _ I h) fun v s1 ⟨x, H1, I1, r1, q1⟩ => ?_
  obtain ⟨a, e, ⟨xs, hq⟩, q⟩ := q1
  subst e
  cases r1
  obtain ⟨its, rv, p, hz⟩ := I1.list hq
  refine wpAny_pyIter_list p.isList ?_
  refine ⟨s1.heap.objs.size, [s1.heap.objs.size], _, _, H1, rfl, I1.kept (t' := s1.toks) fun b o e => Heap.get?_push_of_some _ e, turn_list a _, ⟨_, Heap.get?_push_size _ rfl, rfl, rfl⟩, fun b hb => ?_, q⟩
  have e : b = s1.heap.objs.size := by simpa using hb
  subst e
  exact I1.fpOk (Nat.le_refl _) (I1.hok.fresh (Nat.le_refl _))
theorem range_it {pins : List (Addr × Obj)} {σ : St} {H : Hp} {s : Shared} {R : It → Hp → Prop} {E : Value → Shared → Prop} {lo hi : Int} {t u v : Tok} {tk : Nat} (I : Inv X pins σ H s) (h1 : -(2 ^ 62) ≤ lo) (h2 : lo < 2 ^ 62) (h3 : -(2 ^ 62) ≤ hi) (h4 : hi < 2 ^ 62)
    (q : R (Itr lo (hi - lo).toNat) H) : wpAny (model X.prog X.w) X.A (pyIter (.ref s.heap.objs.size)) (PIE X pins σ tg R) E { s with heap := s.heap.push { cls := .type "range", data := .fields #[.int lo t, .int hi u, .int 1 v] }, toks := tk } := by
  refine wpAny_pyIter_range (IsRange.new ..) (small_one h1 h2 h3 h4) ?_
  have I1 : Inv X pins σ H { s with heap := s.heap.push { cls := .type "range", data := .fields #[.int lo t, .int hi u, .int 1 v] }, toks := tk } := I.kept fun b o e => Heap.get?_push_of_some _ e
  refine ⟨(s.heap.push { cls := .type "range", data := .fields #[.int lo t, .int hi u, .int 1 v] }).objs.size, [(s.heap.push { cls := .type "range", data := .fields #[.int lo t, .int hi u, .int 1 v] }).objs.size], _, _, H, rfl,
    I1.kept (t' := tk) fun b o e => Heap.get?_push_of_some _ e, turn_range _ lo (hi - lo).toNat, ?_, fun b hb => ?_, q⟩
  · have e1 : lo + ((0 : Nat) : Int) * 1 = lo := by simp
    have e2 : (((hi - lo).toNat : Nat) : Int) - ((0 : Nat) : Int) = Builtin.Range.rangeSize lo hi 1 := by rw [rangeSize_one]; split <;> omega
    show IsRangeIter _ _ (lo + ((0 : Nat) : Int) * 1) ((((hi - lo).toNat : Nat) : Int) - ((0 : Nat) : Int)) 1
    rw [e1, e2]
    exact Heap.get?_push_size _ rfl
  · have e : b = (s.heap.push { cls := .type "range", data := .fields #[.int lo t, .int hi u, .int 1 v] }).objs.size := by simpa using hb
    subst e
    exact I1.fpOk (Nat.le_refl _) (I1.hok.fresh (Nat.le_refl _))
def iRng1 (ta : TA) : TI := fun σ H R => ta σ H fun vs H1 => ∃ j : Int, vs = [.int j] ∧ -(2 ^ 62) ≤ j ∧ j < 2 ^ 62 ∧ R (Itr 0 j.toNat) H1
theorem pi_range1 {a : Expr} {ta : TA} {p pos : Pos} (hg : Gl X "range") (hm : X.mg "range" = none) (ha : PA X [a] ta) (hs : starEach [a] X.env = [(false, eval a X.env)] := by rfl) : PI X tg (.Call (.Name "range" p) [a] [] pos) (iRng1 ta) := by
  intro pins s σ H R I h
  refine Call_ (ld_blt I hg hm boot_range (PyProof.Rows.callWith_type1 (thn (ha pos pins s σ H _ I h) fun us s1 ⟨vs, H1, I1, r1, q1⟩ => ?_) hs rfl))
  obtain ⟨j, e, q1, q2, q⟩ := q1
  subst e
  cases r1 with
  | cons r rr =>
    cases rr
    obtain ⟨t, rfl⟩ := r
    exact call_range_1 (range_it I1 (by omega) (by omega) q1 q2 (by simpa using q))
/-! ### for -/
def tFor (wi : TI) (g : TG) (tb : TS) : TS := fun D σ H => wi σ H fun J H1 => ∃ W : Nat → Nat → St → Hp → Prop, (∃ m, W 0 m σ H1) ∧ ∀ i m σ H, W i m σ H →
  (J.stop i H ∧ D.nx σ H) ∨ (J.go i H ∧ ∃ N : St → Hp → Prop, (∀ σ' H', N σ' H' → ∃ m', m' < m ∧ W (i + 1) m' σ' H') ∧ ∀ x H', J.yld i H x H' → g x σ H' fun σ2 H2 => tb { D with nx := N, ct := N, bk := D.nx } σ2 H2)
def pinsAt (fp : List Addr) (h : Heap) : List (Addr × Obj) := fp.filterMap fun b => (h.get? b).map fun o => (b, o)
theorem mem_pinsAt {fp : List Addr} {h : Heap} {b : Addr} {o : Obj} (hb : b ∈ fp) (e : h.get? b = some o) : (b, o) ∈ pinsAt fp h := List.mem_filterMap.mpr ⟨b, hb, by rw [e]; rfl⟩
theorem of_pinsAt {fp : List Addr} {h : Heap} {p : Addr × Obj} (hp : p ∈ pinsAt fp h) : p.1 ∈ fp ∧ h.get? p.1 = some p.2 := by
  obtain ⟨b, hb, e⟩ := List.mem_filterMap.mp hp
  cases q : h.get? b with
  | none => rw [q] at e; cases e
  | some o =>
    rw [q] at e
    have e' : (b, o) = p := Option.some.inj e
    subst e'
    exact ⟨hb, q⟩
theorem Inv.pinned {pins : List (Addr × Obj)} {σ : St} {H : Hp} {s : Shared} {fp : List Addr} (I : Inv X pins σ H s) (hf : ∀ b ∈ fp, FpOk X pins H b) (ho : ∀ b ∈ fp, ∃ o, s.heap.get? b = some o ∧ ∀ v, o.data ≠ .cell v) : Inv X (pins ++ pinsAt fp s.heap) σ H s :=
  I.pins_of fun p hp => (List.mem_append.mp hp).elim (fun z => I.pin p (List.mem_append_right _ z)) fun z => by
    obtain ⟨hb, e⟩ := of_pinsAt z
    obtain ⟨f0, f1, f2, _⟩ := hf p.1 hb
    obtain ⟨o, e', d⟩ := ho p.1 hb
    rw [e] at e'; cases e'
    exact ⟨e, f0, f1, f2, d⟩
theorem Inv.unpinned {pins pl : List (Addr × Obj)} {σ : St} {H : Hp} {s : Shared} (I : Inv X (pins ++ pl) σ H s) : Inv X pins σ H s := I.pins_of fun p hp => I.pin p (List.mem_append_right _ (List.mem_append_left _ hp))
theorem ps_for {iter : Expr} {body : List Stmt} {wi : TI} {g : TG} {tb : TS} {pos : Pos} (hp : PassesOwn (model X.prog X.w) X.A X.env X.xe) (hc : X.calm = true) (hi : PI X tg iter wi) (hg : PG X tg g) (hb : PSs X body tb)
    (hs : ∀ x, foldedSetIterable iter X.env x = pure x := by intro _; rfl) : PS X (.For tg iter body [] pos) (tFor wi g tb) := by
  intro pins s σ H D I h
  refine wpAny_For (thn (hi pins s σ H _ I h) fun v s1 h1 => thn h1 fun itv s2 h2 => ?_) hs
  obtain ⟨it, fp, tn, J, H2, e, I2, T, st2, f2, W, ⟨m0, w0⟩, turn⟩ := h2
  subst e
  -- what stays true of the iterator's objects through the loop
  have stat : ∀ {H' : Hp}, (∀ b ∈ fp, H' b = none) → ∀ b ∈ fp, FpOk X pins H' b := fun hn b hb => ⟨hn b hb, (f2 b hb).2⟩
  refine codeAny_forLoop_any (fun n s' => ∃ i σ' H', Inv X pins σ' H' s' ∧ tn i s'.heap ∧ (∀ b ∈ fp, H' b = none) ∧ W i n σ' H') ?_ m0 ⟨0, σ, H2, I2, st2, fun b hb => (f2 b hb).1, w0⟩
  rintro n s3 ⟨i, σ3, H3, I3, st3, fr3, w3⟩
  rcases turn i n σ3 H3 w3 with ⟨stop, qn⟩ | ⟨go, N, hN, step⟩
  · refine wpAny_passesOwn hp (thn (T.done X rfl rfl rfl hc i pins s3 σ3 H3 X.xe I3 (stat fr3) st3 stop) fun r s4 ⟨hr, I4⟩ => ?_)
    subst hr
    exact wpAny_execs_nil ⟨σ3, H3, I4, qn⟩
  · refine wpAny_passesOwn hp (thn (T.item X rfl rfl rfl hc i pins s3 σ3 H3 X.xe I3 (stat fr3) st3 go) fun r s4 ⟨u, hr, h4⟩ => ?_)
    subst hr
    refine wpAny_passesOwn hp (thn h4 fun _ s5 ⟨x, H5, I5, r5, y5, st5, fr5⟩ => ?_)
    have I5' := I5.pinned (stat fr5) (T.obj _ _ st5)
    refine wpAny_passesOwn hp (thn (hg _ s5 σ3 H5 x u _ I5' r5 (step x H5 y5)) fun _ s6 ⟨σ6, H6, I6, q6⟩ => ?_)
    refine wpAny_passesOwn hp (thn (hb _ s6 σ6 H6 _ I6 q6) fun f s7 q7 => ?_)
    have again : ∀ {σ7 : St} {H7 : Hp}, Inv X (pins ++ pinsAt fp s5.heap) σ7 H7 s7 → N σ7 H7 → ∃ m, m < n ∧ ∃ i σ' H', Inv X pins σ' H' s7 ∧ tn i s7.heap ∧ (∀ b ∈ fp, H' b = none) ∧ W i m σ' H' := fun {σ7 H7} I7 n7 => by
      obtain ⟨m', hm, w7⟩ := hN σ7 H7 n7
      refine ⟨m', hm, i + 1, σ7, H7, I7.unpinned, T.keep _ _ _ st5 fun b hb o e => (I7.pin (b, o) (List.mem_append_right _ (List.mem_append_right _ (mem_pinsAt hb e)))).1, fun b hb => ?_, w7⟩
      obtain ⟨o, e, d⟩ := T.obj _ _ st5 b hb
      exact (I7.pin (b, o) (List.mem_append_right _ (List.mem_append_right _ (mem_pinsAt hb e)))).2.1
    cases f with
    | next => obtain ⟨σ7, H7, I7, n7⟩ := q7; exact again I7 n7
    | cont => obtain ⟨σ7, H7, I7, n7⟩ := q7; exact again I7 n7
    | brk => obtain ⟨σ7, H7, I7, q7⟩ := q7; exact ⟨σ7, H7, I7.unpinned, q7⟩
    | ret v => obtain ⟨x7, σ7, H7, I7, r7, q7⟩ := q7; exact ⟨x7, σ7, H7, I7.unpinned, r7, q7⟩
end

/-! ### the forms one uses -/
theorem for_list {K : PySem.W.Frag} {a : Addr} {xs : List V} {g : TG} {tb : TS} {D : Ends} {σ : St} {H : Hp} (Pv : Nat → St → Hp → Prop) (h0 : Pv 0 σ H) (hl : ∀ i σ H, i ≤ xs.length → Pv i σ H → SqL K H a xs)
    (hs : ∀ i x σ H, xs[i]? = some x → Pv i σ H → g x σ H fun σ2 H2 => tb { D with nx := Pv (i + 1), ct := Pv (i + 1), bk := D.nx } σ2 H2) (hd : ∀ σ H, Pv xs.length σ H → D.nx σ H) :
    ∃ W : Nat → Nat → St → Hp → Prop, (∃ m, W 0 m σ H) ∧ ∀ i m σ H, W i m σ H →
      ((Itl K a).stop i H ∧ D.nx σ H) ∨ ((Itl K a).go i H ∧ ∃ N : St → Hp → Prop, (∀ σ' H', N σ' H' → ∃ m', m' < m ∧ W (i + 1) m' σ' H') ∧ ∀ x H', (Itl K a).yld i H x H' → g x σ H' fun σ2 H2 => tb { D with nx := N, ct := N, bk := D.nx } σ2 H2) := by
  refine ⟨fun i m σ H => m = xs.length - i ∧ i ≤ xs.length ∧ Pv i σ H, ⟨xs.length, by simp, Nat.zero_le _, h0⟩, ?_⟩
  rintro i m σ H ⟨rfl, hi, p⟩
  have q := hl i σ H hi p
  by_cases hlt : i < xs.length
  · refine .inr ⟨⟨xs, xs[i], q, by simp [hlt]⟩, Pv (i + 1), fun σ' H' p' => ⟨xs.length - (i + 1), by omega, rfl, hlt, p'⟩, fun x H' y => ?_⟩
    obtain ⟨e, y⟩ := y
    subst e
    exact hs i x σ _ (y xs q) p
  · have e : i = xs.length := by omega
    subst e
    exact .inl ⟨⟨xs, q, Nat.le_refl _⟩, hd σ H p⟩
theorem for_range {lo : Int} {n : Nat} {g : TG} {tb : TS} {D : Ends} {σ : St} {H : Hp} (Pv : Nat → St → Hp → Prop) (h0 : Pv 0 σ H)
    (hs : ∀ i σ H, i < n → Pv i σ H → g (.int (lo + i)) σ H fun σ2 H2 => tb { D with nx := Pv (i + 1), ct := Pv (i + 1), bk := D.nx } σ2 H2) (hd : ∀ σ H, Pv n σ H → D.nx σ H) :
    ∃ W : Nat → Nat → St → Hp → Prop, (∃ m, W 0 m σ H) ∧ ∀ i m σ H, W i m σ H →
      ((Itr lo n).stop i H ∧ D.nx σ H) ∨ ((Itr lo n).go i H ∧ ∃ N : St → Hp → Prop, (∀ σ' H', N σ' H' → ∃ m', m' < m ∧ W (i + 1) m' σ' H') ∧ ∀ x H', (Itr lo n).yld i H x H' → g x σ H' fun σ2 H2 => tb { D with nx := N, ct := N, bk := D.nx } σ2 H2) := by
  refine ⟨fun i m σ H => m = n - i ∧ i ≤ n ∧ Pv i σ H, ⟨n, by simp, Nat.zero_le _, h0⟩, ?_⟩
  rintro i m σ H ⟨rfl, hi, p⟩
  by_cases hlt : i < n
  · refine .inr ⟨hlt, Pv (i + 1), fun σ' H' p' => ⟨n - (i + 1), by omega, rfl, hlt, p'⟩, fun x H' y => ?_⟩
    obtain ⟨e, y⟩ := y
    subst e y
    exact hs i σ _ hlt p
  · have e : i = n := by omega
    subst e
    exact .inl ⟨Nat.le_refl _, hd σ H p⟩
end L2

namespace L2
open PySem PySem.Spec PyProof.Rows

abbrev R2 := V → V → Hp → VK → Prop
def OpR (X : Cx) (f : Value → Value → Sem Value) (r : R2) : Prop :=
  ∀ (pins : List (Addr × Obj)) (s : Shared) (σ : St) (H : Hp) (x y : V) (v u : Value) (Q : VK), Inv X pins σ H s → RelV x v → RelV y u → r x y H Q →
    wpAny (model X.prog X.w) X.A (f v u) (EP X pins σ Q) X.xe s
def UnR (X : Cx) (f : Value → Sem Value) (r : V → Hp → VK → Prop) : Prop :=
  ∀ (pins : List (Addr × Obj)) (s : Shared) (σ : St) (H : Hp) (x : V) (v : Value) (Q : VK), Inv X pins σ H s → RelV x v → r x H Q →
    wpAny (model X.prog X.w) X.A (f v) (EP X pins σ Q) X.xe s
def CallR (X : Cx) (f : Value) (r : List V → Hp → VK → Prop) : Prop :=
  ∀ (pins : List (Addr × Obj)) (s : Shared) (σ : St) (H : Hp) (xs : List V) (us : List Value) (Q : VK), Inv X pins σ H s → Vals xs us → r xs H Q →
    wpAny (model X.prog X.w) X.A (call f us) (EP X pins σ Q) X.xe s
def TruR (X : Cx) (r : V → Hp → (Bool → Hp → Prop) → Prop) : Prop :=
  ∀ (pins : List (Addr × Obj)) (s : Shared) (σ : St) (H : Hp) (x : V) (v : Value) (Q : Bool → Hp → Prop), Inv X pins σ H s → RelV x v → r x H Q →
    wpAny (model X.prog X.w) X.A (truthy v) (TP X pins σ Q) X.xe s

def tOp (r : R2) (ta tb : TE) : TE := fun σ H Q => ta σ H fun x H1 => tb σ H1 fun y H2 => r x y H2 Q
def tUn (r : V → Hp → VK → Prop) (ta : TE) : TE := fun σ H Q => ta σ H fun x H1 => r x H1 Q
def rI (C : Int → Int → Prop) (g : Int → Int → V) : R2 := fun x y H Q => ∃ i j, x = .int i ∧ y = .int j ∧ C i j ∧ Q (g i j) H
def rI0 (g : Int → Int → V) : R2 := fun x y H Q => ∃ i j, x = .int i ∧ y = .int j ∧ Q (g i j) H
def rU (g : Int → V) : V → Hp → VK → Prop := fun x H Q => ∃ i, x = .int i ∧ Q (g i) H

section
variable {X : Cx} {a b c : Expr} {ta tb tc : TE} {pos : Pos}

theorem binT (ha : PE X a ta) (hb : PE X b tb) {pins : List (Addr × Obj)} {s : Shared} {σ : St} {H : Hp} {R : V → V → Hp → Prop} (I : Inv X pins σ H s)
    (h : ta σ H fun x H1 => tb σ H1 fun y H2 => R x y H2) {Q : Value → Shared → Prop} {f : Value → Value → Sem Value}
    (hf : ∀ v u s2 x y H2, Inv X pins σ H2 s2 → RelV x v → RelV y u → R x y H2 → wpAny (model X.prog X.w) X.A (f v u) Q X.xe s2) :
    wpAny (model X.prog X.w) X.A (eval a X.env) (fun v s₁ => wpAny (model X.prog X.w) X.A (eval b X.env) (fun u s₂ => wpAny (model X.prog X.w) X.A (f v u) Q X.xe s₂) X.xe s₁) X.xe s := by
  refine thn (ha pins s σ H _ I h) fun v s1 ⟨x, H1, I1, r1, q1⟩ => ?_
  refine thn (hb pins s1 σ H1 _ I1 q1) fun u s2 ⟨y, H2, I2, r2, q2⟩ => ?_
  exact hf v u s2 x y H2 I2 r1 r2 q2

theorem pe_op {op : Operator} {r : R2} (ho : OpR X (binaryOp op) r) (ha : PE X a ta) (hb : PE X b tb) : PE X (.BinOp a op b pos) (tOp r ta tb) := by
  intro pins s σ H Q I h
  exact wpAny_BinOp (binT ha hb I h fun v u s2 x y H2 I2 rx ry q => ho pins s2 σ H2 x y v u Q I2 rx ry q)
theorem pe_un {op : UnaryOp} {r : V → Hp → VK → Prop} (ho : UnR X (unaryOp op) r) (ha : PE X a ta) : PE X (.UnaryOp op a pos) (tUn r ta) := by
  intro pins s σ H Q I h
  exact UnaryOp_ (thn (ha pins s σ H _ I h) fun v s1 ⟨x, H1, I1, r1, q1⟩ => ho pins s1 σ H1 x v Q I1 r1 q1)
/-! ### ints -/
theorem opI {f : Value → Value → Sem Value} {C : Int → Int → Prop} {g : Int → Int → Int}
    (rule : ∀ (i j : Int) (t u : Tok) (s : Shared) (Q : Value → Shared → Prop) (E : Value → Shared → Prop), C i j → Q (.int (g i j) s.toks) { s with toks := s.toks + 1 } → wpAny (model X.prog X.w) X.A (f (.int i t) (.int j u)) Q E s) :
    OpR X f (rI C fun i j => .int (g i j)) := by
  intro pins s σ H x y v u Q I rx ry h
  obtain ⟨i, j, rfl, rfl, hc, q⟩ := h
  obtain ⟨t, rfl⟩ := rx
  obtain ⟨t', rfl⟩ := ry
  exact rule i j t t' s _ _ hc ⟨.int (g i j), H, I.tok _, ⟨_, rfl⟩, q⟩
theorem opI0 {f : Value → Value → Sem Value} {g : Int → Int → Int}
    (rule : ∀ (i j : Int) (t u : Tok) (s : Shared) (Q : Value → Shared → Prop) (E : Value → Shared → Prop), Q (.int (g i j) s.toks) { s with toks := s.toks + 1 } → wpAny (model X.prog X.w) X.A (f (.int i t) (.int j u)) Q E s) :
    OpR X f (rI0 fun i j => .int (g i j)) := by
  intro pins s σ H x y v u Q I rx ry h
  obtain ⟨i, j, rfl, rfl, q⟩ := h
  obtain ⟨t, rfl⟩ := rx
  obtain ⟨t', rfl⟩ := ry
  exact rule i j t t' s _ _ ⟨.int (g i j), H, I.tok _, ⟨_, rfl⟩, q⟩
theorem opB0 {f : Value → Value → Sem Value} {g : Int → Int → Bool}
    (rule : ∀ (i j : Int) (t u : Tok) (s : Shared) (Q : Value → Shared → Prop) (E : Value → Shared → Prop), Q (.bool (g i j)) s → wpAny (model X.prog X.w) X.A (f (.int i t) (.int j u)) Q E s) :
    OpR X f (rI0 fun i j => .bl (g i j)) := by
  intro pins s σ H x y v u Q I rx ry h
  obtain ⟨i, j, rfl, rfl, q⟩ := h
  obtain ⟨t, rfl⟩ := rx
  obtain ⟨t', rfl⟩ := ry
  exact rule i j t t' s _ _ ⟨.bl (g i j), H, I, rfl, q⟩

def CDiv (i j : Int) : Prop := 0 < j ∧ j < 1073741824
def CPow (i j : Int) : Prop := 0 ≤ j ∧ j ≤ 1000000 ∧ i.natAbs < 2 ^ 64
def CMul (i j : Int) : Prop := (-(2 ^ 64) < i ∧ i < 2 ^ 64) ∨ (-(2 ^ 64) < j ∧ j < 2 ^ 64)
theorem CMul.ok {i j : Int} (h : CMul i j) : IntMulOk i j := by
  rcases h with ⟨h1, h2⟩ | ⟨h1, h2⟩
  · exact .of_left (intBits_le_64 h1 h2)
  · exact .of_right (intBits_le_64 h1 h2)
theorem two_pow_nn (k : Nat) : (0 : Int) ≤ 2 ^ k := by
  rw [two_pow_cast]
  exact Int.natCast_nonneg _

theorem op_add : OpR X (binaryOp .Add) (rI0 fun i j => .int (i + j)) := opI0 fun _ _ _ _ _ _ _ q => add_int q
theorem op_sub : OpR X (binaryOp .Sub) (rI0 fun i j => .int (i - j)) := opI0 fun _ _ _ _ _ _ _ q => sub_int q
theorem op_mul : OpR X (binaryOp .Mult) (rI CMul fun i j => .int (i * j)) := opI fun _ _ _ _ _ _ _ hc q => mul_int q hc.ok
theorem op_fdiv : OpR X (binaryOp .FloorDiv) (rI CDiv fun i j => .int (i / j)) := opI fun i j _ _ _ _ _ hc q => by
  have h1 : (0 : Int) < j := hc.1
  have h2 : j < 1073741824 := hc.2
  exact floordiv_int (by omega) (by rw [Int.fdiv_eq_ediv_of_nonneg i (by omega)]; exact q) (.inl (PyProof.noPylong_small (by omega)))
theorem op_mod : OpR X (binaryOp .Mod) (rI (fun _ j => 0 < j) fun i j => .int (i % j)) := opI fun i j _ _ _ _ _ hc q => by
  have h1 : (0 : Int) < j := hc
  exact mod_int' (by omega) (by rw [Int.fmod_eq_emod_of_nonneg i (by omega)]; exact q)
theorem op_pow : OpR X (binaryOp .Pow) (rI CPow fun i j => .int (i ^ j.toNat)) := opI fun _ _ _ _ _ _ _ hc q => pow_int_small hc.1 hc.2.1 hc.2.2 q
theorem op_shr : OpR X (binaryOp .RShift) (rI (fun _ j => 0 ≤ j) fun i j => .int (i / 2 ^ j.toNat)) := opI fun i j _ _ _ _ _ hc q =>
  rshift_int hc (by rw [Int.fdiv_eq_ediv_of_nonneg i (two_pow_nn _)]; exact q)
theorem op_and : OpR X (binaryOp .BitAnd) (rI0 fun i j => .int (Builtin.bitAnd i j)) := opI0 fun _ _ _ _ _ _ _ q => and_int q
theorem op_or : OpR X (binaryOp .BitOr) (rI0 fun i j => .int (Builtin.bitOr i j)) := opI0 fun _ _ _ _ _ _ _ q => or_int q
theorem op_xor : OpR X (binaryOp .BitXor) (rI0 fun i j => .int (Builtin.bitXor i j)) := opI0 fun _ _ _ _ _ _ _ q => xor_int q

theorem unI {f : Value → Sem Value} {g : Int → Int}
    (rule : ∀ (i : Int) (t : Tok) (s : Shared) (Q : Value → Shared → Prop) (E : Value → Shared → Prop), Q (.int (g i) s.toks) { s with toks := s.toks + 1 } → wpAny (model X.prog X.w) X.A (f (.int i t)) Q E s) :
    UnR X f (rU fun i => .int (g i)) := by
  intro pins s σ H x v Q I rx h
  obtain ⟨i, rfl, q⟩ := h
  obtain ⟨t, rfl⟩ := rx
  exact rule i t s _ _ ⟨.int (g i), H, I.tok _, ⟨_, rfl⟩, q⟩
theorem un_neg : UnR X (unaryOp .USub) (rU fun i => .int (-i)) := unI fun _ _ _ _ _ q => neg_int q
/-! ### bools among ints: n += (a < b) -/
end

/-! ### comparisons -/
def scal : V → V → Bool
  | .non, .non => true | .non, .int _ => true | .int _, .non => true | .non, .bl _ => true | .bl _, .non => true | .non, .str _ => true | .str _, .non => true
  | .int _, .int _ => true | .bl _, .bl _ => true | .str _, .str _ => true | .byt _, .byt _ => true
  | .int _, .str _ => true | .str _, .int _ => true | .bl _, .str _ => true | .str _, .bl _ => true
  | _, _ => false
def rEq : R2 := fun x y H Q => scal x y = true ∧ Q (.bl (decide (x = y))) H
def rNe : R2 := fun x y H Q => scal x y = true ∧ Q (.bl (!decide (x = y))) H

theorem dec_int {i j : Int} : decide (V.int i = V.int j) = (i == j) := by
  rw [Bool.eq_iff_iff]
  simp
theorem dec_bl {i j : Bool} : decide (V.bl i = V.bl j) = (i == j) := by
  rw [Bool.eq_iff_iff]
  simp
theorem dec_str {i j : Str} : decide (V.str i = V.str j) = (i == j) := by
  rw [Bool.eq_iff_iff]
  simp
theorem dec_byt {i j : Array UInt8} : decide (V.byt i = V.byt j) = (i.toList == j.toList) := by
  rw [Bool.eq_iff_iff]
  cases i
  cases j
  simp

section
variable {X : Cx} {a b c : Expr} {ta tb tc : TE} {pos : Pos}
theorem fin_bl {pins : List (Addr × Obj)} {σ : St} {H : Hp} {s : Shared} {Q : VK} {k k' : Bool} (I : Inv X pins σ H s) (q : Q (.bl k) H) (e : k = k') : EP X pins σ Q (.bool k') s := by
  subst e
  exact ⟨.bl k, H, I, rfl, q⟩
theorem op_eq : OpR X (compareOp .Eq) rEq := by
  intro pins s σ H x y v u Q I rx ry h
  obtain ⟨hs, q⟩ := h
  cases x with
  | non =>
    cases rx
    cases y with
    | non => cases ry; exact PySem.EqNone.eq_none_none (fin_bl I q (by simp))
    | bl j => cases ry; exact PySem.EqNone.eq_none_bool (fin_bl I q (by simp))
    | int j => obtain ⟨t', rfl⟩ := ry; exact PySem.EqNone.eq_none_int (fin_bl I q (by simp))
    | str j => obtain ⟨t', rfl⟩ := ry; exact PySem.EqNone.eq_none_str (fin_bl I q (by simp))
    | _ => exact absurd (show false = true from hs) Bool.false_ne_true
  | bl i =>
    cases rx
    cases y with
    | non => cases ry; exact PySem.EqNone.eq_bool_none (fin_bl I q (by simp))
    | bl j => cases ry; exact eq_bool (fin_bl I q dec_bl)
    | str j => obtain ⟨t', rfl⟩ := ry; exact PySem.EqMixed.eq_bool_str (fin_bl I q (by simp))
    | _ => exact absurd (show false = true from hs) Bool.false_ne_true
  | int i =>
    obtain ⟨t, rfl⟩ := rx
    cases y with
    | non => cases ry; exact PySem.EqNone.eq_int_none (fin_bl I q (by simp))
    | int j => obtain ⟨t', rfl⟩ := ry; exact eq_int (fin_bl I q dec_int)
    | str j => obtain ⟨t', rfl⟩ := ry; exact PySem.EqMixed.eq_int_str (fin_bl I q (by simp))
    | _ => exact absurd (show false = true from hs) Bool.false_ne_true
  | str i =>
    obtain ⟨t, rfl⟩ := rx
    cases y with
    | non => cases ry; exact PySem.EqNone.eq_str_none (fin_bl I q (by simp))
    | bl j => cases ry; exact PySem.EqMixed.eq_str_bool (fin_bl I q (by simp))
    | int j => obtain ⟨t', rfl⟩ := ry; exact PySem.EqMixed.eq_str_int (fin_bl I q (by simp))
    | str j => obtain ⟨t', rfl⟩ := ry; exact eq_str (fin_bl I q dec_str)
    | _ => exact absurd (show false = true from hs) Bool.false_ne_true
  | byt i =>
    obtain ⟨t, rfl⟩ := rx
    cases y with
    | byt j => obtain ⟨t', rfl⟩ := ry; exact PySem.W.eq_bytes (fin_bl I q dec_byt)
    | _ => exact absurd (show false = true from hs) Bool.false_ne_true
  | _ => cases y <;> exact absurd (show false = true from hs) Bool.false_ne_true
theorem op_ne : OpR X (compareOp .NotEq) rNe := by
  intro pins s σ H x y v u Q I rx ry h
  obtain ⟨hs, q⟩ := h
  cases x with
  | non =>
    cases rx
    cases y with
    | non => cases ry; exact PySem.EqNone.ne_none_none (fin_bl I q (by simp))
    | bl j => cases ry; exact PySem.EqNone.ne_none_bool (fin_bl I q (by simp))
    | int j => obtain ⟨t', rfl⟩ := ry; exact PySem.EqNone.ne_none_int (fin_bl I q (by simp))
    | str j => obtain ⟨t', rfl⟩ := ry; exact PySem.EqNone.ne_none_str (fin_bl I q (by simp))
    | _ => exact absurd (show false = true from hs) Bool.false_ne_true
  | bl i =>
    cases rx
    cases y with
    | non => cases ry; exact PySem.EqNone.ne_bool_none (fin_bl I q (by simp))
    | bl j => cases ry; exact ne_bool (fin_bl I q (congrArg not dec_bl))
    | str j => obtain ⟨t', rfl⟩ := ry; exact PySem.EqMixed.ne_bool_str (fin_bl I q (by simp))
    | _ => exact absurd (show false = true from hs) Bool.false_ne_true
  | int i =>
    obtain ⟨t, rfl⟩ := rx
    cases y with
    | non => cases ry; exact PySem.EqNone.ne_int_none (fin_bl I q (by simp))
    | int j => obtain ⟨t', rfl⟩ := ry; exact ne_int (fin_bl I q (congrArg not dec_int))
    | str j => obtain ⟨t', rfl⟩ := ry; exact PySem.EqMixed.ne_int_str (fin_bl I q (by simp))
    | _ => exact absurd (show false = true from hs) Bool.false_ne_true
  | str i =>
    obtain ⟨t, rfl⟩ := rx
    cases y with
    | non => cases ry; exact PySem.EqNone.ne_str_none (fin_bl I q (by simp))
    | bl j => cases ry; exact PySem.EqMixed.ne_str_bool (fin_bl I q (by simp))
    | int j => obtain ⟨t', rfl⟩ := ry; exact PySem.EqMixed.ne_str_int (fin_bl I q (by simp))
    | str j => obtain ⟨t', rfl⟩ := ry; exact ne_str (fin_bl I q (congrArg not dec_str))
    | _ => exact absurd (show false = true from hs) Bool.false_ne_true
  | byt i =>
    obtain ⟨t, rfl⟩ := rx
    cases y with
    | byt j => obtain ⟨t', rfl⟩ := ry; exact PySem.W.ne_bytes (fin_bl I q (congrArg not dec_byt))
    | _ => exact absurd (show false = true from hs) Bool.false_ne_true
  | _ => cases y <;> exact absurd (show false = true from hs) Bool.false_ne_true

theorem op_lt : OpR X (compareOp .Lt) (rI0 fun i j => .bl (decide (i < j))) := opB0 fun _ _ _ _ _ _ _ q => lt_int q
theorem op_le : OpR X (compareOp .LtE) (rI0 fun i j => .bl (decide (i ≤ j))) := opB0 fun _ _ _ _ _ _ _ q => le_int q
theorem op_gt : OpR X (compareOp .Gt) (rI0 fun i j => .bl (decide (j < i))) := opB0 fun _ _ _ _ _ _ _ q => gt_int q
theorem op_ge : OpR X (compareOp .GtE) (rI0 fun i j => .bl (decide (j ≤ i))) := opB0 fun _ _ _ _ _ _ _ q => ge_int q
theorem op_isN : OpR X (compareOp .Is) (fun x y H Q => y = .non ∧ Q (.bl (decide (x = .non))) H) := by
  intro pins s σ H x y v u Q I rx ry h
  obtain ⟨rfl, q⟩ := h
  cases ry
  refine is_none_gen (fin_bl I q ?_)
  cases x <;> first
    | (cases rx; rfl)
    | (obtain ⟨t, rfl⟩ := rx; rfl)
theorem nomark (b : Expr) {op : CmpOp} (h : op ≠ .In := by decide) (h2 : op ≠ .NotIn := by decide) : behindInMarks op b = false := by
  have e1 : (op == CmpOp.In) = false := by cases op <;> first | rfl | exact absurd rfl h
  have e2 : (op == CmpOp.NotIn) = false := by cases op <;> first | rfl | exact absurd rfl h2
  cases b <;> simp [behindInMarks, e1, e2]
theorem pe_cmpR {op : CmpOp} {r : R2} (ho : OpR X (compareOp op) r) (ha : PE X a ta) (hb : PE X b tb) (hm : behindInMarks op b = false) : PE X (.Compare a [op] [b] pos) (tOp r ta tb) := by
  intro pins s σ H Q I h
  exact wpAny_Compare1 (binT ha hb I h fun v u s2 x y H2 I2 rx ry q => ho pins s2 σ H2 x y v u Q I2 rx ry q) hm
def tTest (t : TE) : TT := fun σ H Q => t σ H fun x H' => ∃ k, x = .bl k ∧ Q k H'
theorem pt_cmpR {op : CmpOp} {r : R2} (ho : OpR X (compareOp op) r) (ha : PE X a ta) (hb : PE X b tb) (hm : behindInMarks op b = false) : PT X (.Compare a [op] [b] pos) (tTest (tOp r ta tb)) := by
  intro pins s σ H Q I h
  refine wpAny_isTrue_Compare1 (thn (ha pins s σ H _ I h) fun v s1 ⟨x, H1, I1, r1, q1⟩ => thn (hb pins s1 σ H1 _ I1 q1) fun u s2 ⟨y, H2, I2, r2, q2⟩ =>
    thn (ho pins s2 σ H2 x y v u _ I2 r1 r2 q2) fun c s3 ⟨z, H3, I3, r3, k, e, q3⟩ => ?_) hm
  subst e
  cases r3
  exact wpAny_truthy_bool ⟨H3, I3, q3⟩
/-! ### truth -/
def TruV (K : PySem.W.Frag) (x : V) (H : Hp) (k : Bool) : Prop :=
  match x with
  | .non => k = false
  | .bl b => k = b
  | .int i => k = (i != 0)
  | .str y => y.length ≤ sizeLine ∧ k = ((y.length : Int) != 0)
  | .byt y => y.size ≤ sizeLine ∧ k = ((y.size : Int) != 0)
  | .ref p => (∃ xs, SqL K H p xs ∧ k = !xs.isEmpty) ∨ (∃ xs, SqT K H p xs ∧ k = !xs.isEmpty) ∨ ∃ kvs, H p = some (.dK kvs) ∧ k = !kvs.isEmpty
  | _ => False
theorem isEmpty_kv {κ : Type} {kvs : List (κ × V)} {vs : List (κ × Value)} (r : KV kvs vs) : (!vs.isEmpty) = !kvs.isEmpty := by
  cases r <;> rfl
theorem isEmpty_of {xs : List V} {its : List Value} (r : Vals xs its) : (!its.toArray.isEmpty) = !xs.isEmpty := by
  cases r <;> simp
theorem line63 : (sizeLine : Nat) < 2 ^ 63 := by rw [sizeLine_eq]; decide
theorem tru_ok : TruR X (fun x H Q => ∃ k, TruV X.K x H k ∧ Q k H) := by
  intro pins s σ H x v Q I rx h
  obtain ⟨k, e, q⟩ := h
  have hl := line63
  have hs : sizeLine = 16777216 := sizeLine_eq
  cases x with
  | non =>
    cases rx
    have e' : k = false := e
    subst e'
    exact truthy_none ⟨H, I, q⟩
  | bl b =>
    cases rx
    have e' : k = b := e
    subst e'
    exact wpAny_truthy_bool ⟨H, I, q⟩
  | int i =>
    obtain ⟨t, rfl⟩ := rx
    have e' : k = (i != 0) := e
    subst e'
    exact PySem.P.truthy_int ⟨H, I, q⟩
  | str y =>
    obtain ⟨t, rfl⟩ := rx
    obtain ⟨hy, e'⟩ : y.length ≤ sizeLine ∧ k = ((y.length : Int) != 0) := e
    subst e'
    exact PySem.P.truthy_str (by omega) ⟨H, I.tok _, q⟩
  | byt y =>
    obtain ⟨t, rfl⟩ := rx
    obtain ⟨hy, e'⟩ : y.size ≤ sizeLine ∧ k = ((y.size : Int) != 0) := e
    subst e'
    exact PySem.W.truthy_bytes (by omega) ⟨H, I.tok _, q⟩
  | ref p =>
    cases rx
    have e' : (∃ xs, SqL X.K H p xs ∧ k = !xs.isEmpty) ∨ (∃ xs, SqT X.K H p xs ∧ k = !xs.isEmpty) ∨ ∃ kvs, H p = some (.dK kvs) ∧ k = !kvs.isEmpty := e
    rcases e' with ⟨xs, hx, e'⟩ | ⟨xs, hx, e'⟩ | ⟨kvs, hx, e'⟩
    · subst e'
      obtain ⟨its, r, pl, hz⟩ := I.list hx
      have hlen := r.length
      exact wpAny_truthy_list pl.isList (by simp only [List.size_toArray]; omega) ⟨H, I.tok _, by rw [isEmpty_of r]; exact q⟩
    · subst e'
      obtain ⟨its, r, pl, hz⟩ := I.tuple hx
      have hlen := r.length
      exact truthy_tuple pl (by simp only [List.size_toArray]; omega) ⟨H, I.tok _, by rw [isEmpty_of r]; exact q⟩
    · subst e'
      obtain ⟨hz, hS, vs, r, m⟩ : kvs.length ≤ sizeLine ∧ (p == sysModules) = false ∧ ∃ vs, KV kvs vs ∧ s.heap.DictOf (mixKind X.prog X.w) p vs := I.hok p _ hx
      have hlen : kvs.length = vs.length := Paired.length r
      exact wpAny_truthy_dict hS m (by omega) ⟨H, I.tok _, by rw [isEmpty_kv r]; exact q⟩
  | _ => exact (show False from e).elim
/-! ### strs and bytes -/
/-! ### scalar builtins, by CallR -/
theorem vals1 {x : V} {us : List Value} (r : Vals [x] us) : ∃ u, us = [u] ∧ RelV x u := by
  cases r with
  | cons r1 r2 => cases r2; exact ⟨_, rfl, r1⟩
theorem vals2 {x y : V} {us : List Value} (r : Vals [x, y] us) : ∃ u w', us = [u, w'] ∧ RelV x u ∧ RelV y w' := by
  cases r with
  | cons r1 r2 =>
    cases r2 with
    | cons r3 r4 => cases r4; exact ⟨_, _, rfl, r1, r3⟩
theorem call_max2 (hc : X.calm = true) : CallR X (.builtin "max") (fun xs H Q => ∃ i j, xs = [.int i, .int j] ∧ Q (.int (if j > i then j else i)) H) := by
  intro pins s σ H xs us Q I r h
  obtain ⟨i, j, rfl, q⟩ := h
  obtain ⟨u, w', rfl, ⟨t, rfl⟩, ⟨t', rfl⟩⟩ := vals2 r
  refine max_two_ints (I.ok.hd hc) fun h' tk k => ⟨_, H, I.kept k, ?_, q⟩
  by_cases hj : j > i
  · rw [if_pos hj, if_pos hj]; exact ⟨_, rfl⟩
  · rw [if_neg hj, if_neg hj]; exact ⟨_, rfl⟩
end
end L2

namespace L2
open PySem PySem.Spec PyProof.Rows

/-! ### an instance, its attributes a map -/
structure ObjM (h : Heap) (x dx C : Addr) (mA : Str → Option Value) : Prop where
  obj : h.get? x = some (PySem.W.instObj C dx)
  ns : h.Ns1 dx mA
  ne : dx ≠ x

theorem lookIn_ns {h : Heap} {dx : Addr} {mA : Str → Option Value} (n : h.Ns1 dx mA) : ∃ od, h.get? dx = some od ∧ ∀ name, PySem.W.lookIn name od = some (mA name) := by
  obtain ⟨o, es, ep, ho, hd, hk, _, hm⟩ := n
  refine ⟨o, ho, fun name => ?_⟩
  have e := hm name
  unfold nsFind findBy at e
  rw [← Array.find?_toList] at e
  unfold PySem.W.lookIn
  rw [hd]
  dsimp only
  split
  · rename_i y q
    rw [q] at e
    exact congrArg some e
  · rename_i q
    rw [q] at e
    have a : es.toList.any (·.refKey) = false := by
      rw [List.any_eq_false]
      intro y hy
      obtain ⟨z, t, hkey⟩ := hk y (Array.mem_toList_iff.mp hy)
      simp [DictEntry.refKey, hkey]
    have a' : ¬ es.toList.any (·.refKey) = true := by rw [a]; exact Bool.false_ne_true
    rw [if_neg a']
    exact congrArg some e

theorem ObjM.look {h : Heap} {x dx C : Addr} {mA : Str → Option Value} (I : ObjM h x dx C mA) : ∃ od, PySem.W.InstAt h x (PySem.W.instObj C dx) C (some od) ∧ ∀ name, PySem.W.lookIn name od = some (mA name) :=
  let ⟨od, ho, hl⟩ := lookIn_ns I.ns
  ⟨od, ⟨I.obj, rfl, rfl, ho⟩, hl⟩

section
variable {prog : Program} {w : World} {A : Around} {E : Value → Shared → Prop} {s : Shared} {K : PySem.W.Frag} {x dx C f : Addr} {mA : Str → Option Value} {name : Str} {v : Value}

end

/-! ### the attributes as a list of pairs -/
theorem RelO.some_of {v : V} {o : Option Value} (r : RelO (some v) o) : ∃ u, o = some u ∧ RelV v u := by
  cases o with
  | none => exact (show False from r).elim
  | some u => exact ⟨u, rfl, r⟩
section
variable {P : Program} {w : World} {H H' : Hp} {h h' : Heap} {a C dx : Addr} {fs fs' : List (Str × V)}
theorem ins_get (hok : HOk P w H h) (e : H a = some (.ins C dx fs)) : ∃ mA, ObjM h a dx C mA ∧ (∀ f, RelO (fs.lookup f) (mA f)) ∧ PySem.Within mA (fs.map (·.1)) ∧ fs.length ≤ 1000 ∧ H dx = some (.own a) := by
  obtain ⟨d, z, ne, ob, mA, n, r, q⟩ := (show ObjOk P w H h a (.ins C dx fs) from hok a _ e)
  exact ⟨mA, ⟨ob, n, ne⟩, r, q, z, d⟩
end

/-! ### what of the text a class must have -/
structure Cls (K : PySem.W.Frag) (C : Addr) : Prop where
  pg : PySem.W.plainGet K C Str.empty = true
  hd : PySem.W.hasDictIn K C = true
  po : PySem.W.plainOver K C = true
  sa : PySem.W.findIn K (.ref C) "__setattr__" = some (some (.builtin "object.__setattr__"))
theorem Cls.get {K : PySem.W.Frag} {C : Addr} (c : Cls K C) (f : Str) : PySem.W.plainGet K C f = true := c.pg
section
variable {X : Cx} {pins : List (Addr × Obj)} {σ : St} {H : Hp} {s : Shared} {a C dx : Addr} {fs : List (Str × V)} {f : Str} {v : V} {A : Around} {E : Value → Shared → Prop}

end

/-! ### readings and rules -/
section
variable {X : Cx} {o e value : Expr} {f : Str} {pos pos' tpos : Pos} {ta tv : TE}
end

/-! ### isinstance -/
section
variable {X : Cx} {pins : List (Addr × Obj)} {σ : St} {H : Hp} {s : Shared} {A : Around} {E : Value → Shared → Prop} {Q : Value → Shared → Prop} {c : Value} {b : Bool}
inductive TyOf (K : PySem.W.Frag) (H : Hp) : V → Value → Prop where
  | non : TyOf K H .non (.type "NoneType")
  | bl (x : Bool) : TyOf K H (.bl x) (.type "bool")
  | int (i : Int) : TyOf K H (.int i) (.type "int")
  | str (x : Str) : TyOf K H (.str x) (.type "str")
  | flt (x : UInt64) : TyOf K H (.flt x) (.type "float")
  | lst {a : Addr} {xs : List V} (e : H a = some (.lst xs)) : TyOf K H (.ref a) (.type "list")
  | frz {a : Addr} {o : Obj} {xs : List V} (e : H a = some (.frz o (.lst xs))) : TyOf K H (.ref a) (.type "list")
  | tup {a : Addr} {xs : List V} (e : H a = some (.tup xs)) : TyOf K H (.ref a) (.type "tuple")
  | dK {a : Addr} {kvs : List (Key × V)} (e : H a = some (.dK kvs)) : TyOf K H (.ref a) (.type "dict")
  | dT {a : Addr} {kvs : List (List Key × V)} (e : H a = some (.dT kvs)) : TyOf K H (.ref a) (.type "dict")
  | ins {a C dx : Addr} {fs : List (Str × V)} (e : H a = some (.ins C dx fs)) (cl : Cls K C) (ha : PySem.W.findIn K (.ref C) "__class__" = some (some (.builtin "object.__class__")))
      (hn : PySem.W.specialIn K (.builtin "object.__class__") "__get__" = some (some (.builtin "getset_descriptor.__get__"))) (htk : PySem.W.takesIn K (.builtin "object.__class__") = some true)
      (hm : PySem.W.mroIn K C (.type "object") = some true) : TyOf K H (.ref a) (.ref C)
theorem isinst_ok {x : V} {u t : Value} (I : Inv X pins σ H s) (rx : RelV x u) (ty : TyOf X.K H x t) (e : PySem.W.kitOne X.K t c = some b) (h : ∀ tk, Q (.bool b) { s with toks := tk }) :
    wpAny (model X.prog X.w) A (call (.builtin "isinstance") [u, c]) Q E s := by
  cases ty with
  | non => cases (show u = Value.none from rx); exact PySem.W.kia_one PySem.W.kitx_none I.kIn True.intro e (fun z => nomatch z) h
  | bl y => cases (show u = Value.bool y from rx); exact PySem.W.kia_one PySem.W.kitx_bool I.kIn True.intro e (fun z => nomatch z) h
  | int i => obtain ⟨t, q⟩ := (show ∃ t, u = Value.int i t from rx); cases q; exact PySem.W.kia_one PySem.W.kitx_int I.kIn True.intro e (fun z => nomatch z) h
  | str y => obtain ⟨t, q⟩ := (show ∃ t, u = Value.str y t from rx); cases q; exact PySem.W.kia_one PySem.W.kitx_str I.kIn True.intro e (fun z => nomatch z) h
  | flt y => obtain ⟨t, q⟩ := (show ∃ t, u = Value.float y t from rx); cases q; exact PySem.W.kia_one PySem.W.kitx_float I.kIn True.intro e (fun z => nomatch z) h
  | @lst a xs ea =>
    cases (show u = Value.ref a from rx)
    obtain ⟨_, _, n, _, h1⟩ := (show ObjOk X.prog X.w H s.heap a (.lst xs) from I.hok a _ ea)
    exact PySem.W.kia_one PySem.W.kitx_list I.kIn ⟨_, h1, rfl⟩ e (fun z => nomatch z) h
  | @frz a ob xs ea =>
    cases (show u = Value.ref a from rx)
    obtain ⟨_, _, _, n, _, h1⟩ := (show ObjOk X.prog X.w H s.heap a (.frz ob (.lst xs)) from I.hok a _ ea)
    exact PySem.W.kia_one PySem.W.kitx_list I.kIn ⟨_, h1, rfl⟩ e (fun z => nomatch z) h
  | @tup a xs ea =>
    cases (show u = Value.ref a from rx)
    obtain ⟨_, _, _, p⟩ := (show ObjOk X.prog X.w H s.heap a (.tup xs) from I.hok a _ ea)
    obtain ⟨o, h1, h2, _⟩ := p
    exact PySem.W.kia_one PySem.W.kitx_tuple I.kIn ⟨o, h1, h2⟩ e (fun z => nomatch z) h
  | @dK a kvs ea =>
    cases (show u = Value.ref a from rx)
    obtain ⟨_, _, vs, _, p⟩ := (show ObjOk X.prog X.w H s.heap a (.dK kvs) from I.hok a _ ea)
    obtain ⟨o, es, ep, h1, h2, _⟩ := p
    exact PySem.W.kia_one PySem.W.kitx_dict I.kIn ⟨o, h1, h2.1⟩ e (fun z => nomatch z) h
  | @dT a kvs ea =>
    cases (show u = Value.ref a from rx)
    obtain ⟨_, _, xs, _, o, es, ep, h1, h2, _⟩ := (show ObjOk X.prog X.w H s.heap a (.dT kvs) from I.hok a _ ea)
    exact PySem.W.kia_one PySem.W.kitx_dict I.kIn ⟨o, h1, h2.1⟩ e (fun z => nomatch z) h
  | @ins a C dx fs ea cl ha hn htk hm =>
    cases (show u = Value.ref a from rx)
    obtain ⟨mA, O, _⟩ := ins_get I.hok ea
    obtain ⟨od, J, _⟩ := O.look
    exact PySem.W.kia_one (PySem.W.kitx_own (cl.get _) cl.hd ha hn htk hm) I.kIn J e (fun z => nomatch z) h
end
end L2

namespace L2
open PySem PySem.Spec PyProof.Rows

/-! ### room -/
structure Room (k : Nat) (A : Around) : Prop where
  hd : A.handled = none
  dp : A.depth + 3 * k + 5 < recursionLimit
  un : A.units + 16 * k + 200 < cLine
theorem Room.mono {j k : Nat} {A : Around} (r : Room k A) (h : j ≤ k) : Room j A := ⟨r.hd, by have := r.dp; omega, by have := r.un; omega⟩
theorem Room.deeper {k : Nat} {A : Around} (r : Room (k + 1) A) (env : Env) : Room k (A.deeper env) :=
  ⟨r.hd, by have := r.dp; show A.depth + 1 + 3 * k + 5 < _; omega, by have := r.un; show A.units + 3 + 16 * k + 200 < _; omega⟩
theorem Room.in1 {k : Nat} {A : Around} (r : Room (k + 1) A) : Room k A.in1 :=
  ⟨r.hd, by have := r.dp; show A.depth + 3 * k + 5 < _; omega, by have := r.un; show A.units + 1 + 16 * k + 200 < _; omega⟩
theorem Room.depth {k : Nat} {A : Around} (r : Room k A) : A.depth < recursionLimit := by have := r.dp; omega
theorem Room.units {k : Nat} {A : Around} (r : Room k A) : A.units + 64 < cLine := by have := r.un; omega
/-! ### argument lists and displays -/
def tNil : TA := fun _ H Q => Q [] H
def tCons (ta : TE) (tr : TA) : TA := fun σ H Q => ta σ H fun x H1 => tr σ H1 fun xs H2 => Q (x :: xs) H2
section
variable {X : Cx} {e : Expr} {es : List Expr} {te : TE} {t : TA} {pos : Pos}
theorem pa_nil : PA X [] tNil := fun _ _ _ _ H Q I h => Calls.spliced_nil ⟨[], H, I, .nil, h⟩
theorem pa_cons (ha : PE X e te) (hr : PA X es t) (hs : starEach (e :: es) X.env = (false, eval e X.env) :: starEach es X.env := by rfl) : PA X (e :: es) (tCons te t) := by
  intro pos pins s σ H Q I h
  rw [hs]
  show wpAny _ _ (spliced ((false, eval e X.env) :: backTo pos (starEach es X.env))) _ _ s
  refine Calls.spliced_cons (thn (ha pins s σ H _ I h) fun u s1 ⟨x, H1, I1, r1, q1⟩ => ?_)
  exact thn (hr pos pins s1 σ H1 _ I1 q1) fun us s2 ⟨xs, H2, I2, r2, q2⟩ => ⟨x :: xs, H2, I2, .cons r1 r2, q2⟩

def tTup (t : TA) : TE := fun σ H Q => t σ H fun xs H1 => xs.length ≤ sizeLine ∧ ∀ p, H1 p = none → Q (.ref p) (upd H1 p (.tup xs))
def tLst (t : TA) : TE := fun σ H Q => t σ H fun xs H1 => xs.length ≤ sizeLine ∧ ∀ p, H1 p = none → Q (.ref p) (upd H1 p (.lst xs))
theorem pe_tup {x1} (h : PA X es t) : PE X (.Tuple es x1 pos) (tTup t) := by
  intro pins s σ H Q I hq
  refine wpAny_Tuple_spliced (thn (h pos pins s σ H _ I hq) fun us s1 ⟨xs, H1, I1, r, z, q⟩ => ⟨by rw [← r.length]; exact z, ?_⟩)
  have hf : H1 s1.heap.objs.size = none := I1.hok.fresh (Nat.le_refl _)
  refine ⟨.ref s1.heap.objs.size, upd H1 s1.heap.objs.size (.tup xs), I1.laid (t' := s1.toks) (fun b u e => Heap.get?_push_of_some _ e) (Nat.le_refl _) ?_, rfl, q _ hf⟩
  exact ⟨z, us, r, ⟨_, Heap.get?_push_size _ rfl, rfl, _, rfl⟩⟩
theorem pe_lst (h : PA X es t) : PE X (.List es pos) (tLst t) := by
  intro pins s σ H Q I hq
  refine wpAny_List_spliced (thn (h pos pins s σ H _ I hq) fun us s1 ⟨xs, H1, I1, r, z, q⟩ => ⟨by rw [← r.length]; exact z, ?_⟩)
  have hf : H1 s1.heap.objs.size = none := I1.hok.fresh (Nat.le_refl _)
  refine ⟨.ref s1.heap.objs.size, upd H1 s1.heap.objs.size (.lst xs), I1.laid (t' := s1.toks) (fun b u e => Heap.get?_push_of_some _ e) (Nat.le_refl _) ?_, rfl, q _ hf⟩
  exact ⟨z, us, 0, r, Heap.get?_push_size _ rfl⟩
end

/-! ### what a def promises -/
abbrev Sp := List V → Hp → VK → XK → Prop
abbrev CXT := List Env → Hp → Shared → XK → Value → Shared → Prop

structure Env0 (P : Program) (w : World) (K : PySem.W.Frag) (mg : Str → Option Value) (base : Heap) (A : Around) (outer : List Env) (s : Shared) (H : Hp) : Prop where
  frames : A.frames = some outer
  mod : Mod K mg base
  bs : ∀ b o, base.get? b = some o → s.heap.get? b = some o ∧ H b = none
  bsz : base.objs.size ≤ s.heap.objs.size
  funs : s.heap.FunFrames base outer
  frf : ∀ b ∈ frs outer, H b = none
  hok : HOk P w H s.heap
  bare : AllBare s.gens
def CE (outer : List Env) (P : Program) (w : World) (H : Hp) (s : Shared) (Q : VK) (u : Value) (s' : Shared) : Prop :=
  ∃ v H', s'.os = s.os ∧ AllBare s'.gens ∧ Un (frs outer) [] H H' s.heap s'.heap ∧ HOk P w H' s'.heap ∧ RelV v u ∧ Q v H'
def CR (CX : CXT) (outer : List Env) (P : Program) (w : World) (H : Hp) (s : Shared) (Q : VK) (E : XK) (r : Result) (s' : Shared) : Prop :=
  match r with
  | .ok (.ret u) => CE outer P w H s Q u s'
  | .ok _ => False
  | .error e => CX outer H s E e s'
structure FnOk (P : Program) (w : World) (K : PySem.W.Frag) (mg : Str → Option Value) (base : Heap) (CX : CXT) (k : Nat) (f : Addr) (fd : FuncData) (ps : List Str) (sp : Sp) : Prop where
  len : ∀ vs H Q E, sp vs H Q E → vs.length = ps.length
  run : ∀ (A : Around) (outer : List Env) (s : Shared) (H : Hp) (args : Args) (us : List Value) (vs : List V) (Q : VK) (E : XK), Room k A → Env0 P w K mg base A outer s H → BindsTo s fd args (ps.zip us) → Vals vs us → sp vs H Q E →
    codeAny (model P w) A (.call (.ref f) args) (CR CX outer P w H s Q E) s
theorem FnOk.mono {P : Program} {w : World} {K : PySem.W.Frag} {mg : Str → Option Value} {base : Heap} {CX : CXT} {j k : Nat} {f : Addr} {fd : FuncData} {ps : List Str} {sp : Sp} (F : FnOk P w K mg base CX j f fd ps sp) (h : j ≤ k) :
    FnOk P w K mg base CX k f fd ps sp := ⟨F.len, fun A outer s H args us vs Q E hr => F.run A outer s H args us vs Q E (hr.mono h)⟩
section
variable {X : Cx} {pins : List (Addr × Obj)} {σ : St} {H : Hp} {s s' : Shared}
theorem Inv.env0 (I : Inv X pins σ H s) : Env0 X.prog X.w X.K X.mg X.base X.A X.stack s H :=
  ⟨I.ok.frames, I.ok.mod, I.bs, Nat.le_trans I.ok.bsz I.sz, I.stack, I.stkFree, I.hok, I.bare⟩
theorem Inv.after {Q : VK} {u : Value} (I : Inv X pins σ H s) (h : CE X.stack X.prog X.w H s Q u s') : EP X pins σ Q u s' := by
  obtain ⟨v, H', os, bare, un, hok, r, q⟩ := h
  obtain ⟨hh, g, d, t, os'⟩ := s'
  obtain rfl : os' = s.os := os
  exact ⟨v, H', I.call (h' := hh) (g' := g) (d' := d) (t' := t) (ch := []) un hok bare (fun b z => absurd z (by simp)), r, q⟩
end

/-! ### calls -/
def tCall (sp : Sp) (dvs : List V) (E : XK) (t : TA) : TE := fun σ H Q => t σ H fun vs H1 => sp (vs ++ dvs) H1 Q E
def Binds (K : PySem.W.Frag) (fd : FuncData) (ps : List Str) (ds : List Value) : Prop :=
  ∀ (s : Shared) (us : List Value), K.In s.heap → (us ++ ds).length = ps.length → BindsTo s fd ⟨us, []⟩ (ps.zip (us ++ ds))
theorem Binds.all {K : PySem.W.Frag} {fd : FuncData} {ps : List Str} (h : ∀ us : List Value, us.length = ps.length → bindArgs fd ⟨us, []⟩ = pure (ps.zip us)) : Binds K fd ps [] := fun s us _ hl => by
  rw [List.append_nil] at hl ⊢
  exact .of_eq (h us hl)

def Passes (CX : CXT) (X : Cx) (E : XK) : Prop := ∀ (pins : List (Addr × Obj)) (σ : St) (H : Hp) (s : Shared) (e : Value) (s' : Shared), Inv X pins σ H s → CX X.stack H s E e s' → X.xe e s'

section
variable {X : Cx} {CX : CXT} {k : Nat} {f C : Addr} {fd : FuncData} {ps : List Str} {sp : Sp} {dvs : List V} {ds : List Value} {E : XK} {x m : Str} {p pos apos : Pos} {e o : Expr} {es : List Expr} {ta : TE} {t : TA}

theorem run_fn {pins : List (Addr × Obj)} {σ : St} {H : Hp} {s : Shared} {Q : VK} {us : List Value} {vs : List V} (F : FnOk X.prog X.w X.K X.mg X.base CX k f fd ps sp) (hr : Room k X.A) (hb : Binds X.K fd ps ds) (hd : Vals dvs ds) (hx : Passes CX X E)
    (I : Inv X pins σ H s) (r : Vals vs us) (h : sp (vs ++ dvs) H Q E) : wpAny (model X.prog X.w) X.A (call (.ref f) us) (EP X pins σ Q) X.xe s := by
  have r2 : Vals (vs ++ dvs) (us ++ ds) := r.append hd
  have hl : (us ++ ds).length = ps.length := by rw [← r2.length]; exact F.len _ _ _ _ h
  refine wpAny_call (codeAny_mono (F.run X.A X.stack s H ⟨us, []⟩ (us ++ ds) (vs ++ dvs) Q E hr I.env0 (hb s us I.kIn hl) r2 h) fun r s' hq => ?_)
  cases r with
  | error e => exact hx pins σ H s e s' I hq
  | ok fl =>
    cases fl with
    | ret u => exact I.after hq
    | next => exact False.elim hq
    | brk => exact False.elim hq
    | cont => exact False.elim hq

theorem pe_call (F : FnOk X.prog X.w X.K X.mg X.base CX k f fd ps sp) (hr : Room k X.A) (hg : Gl X x) (hm : X.mg x = some (.ref f)) (hk : PySem.W.keepIn X.K (.ref f) = true) (hb : Binds X.K fd ps ds) (hd : Vals dvs ds) (hx : Passes CX X E)
    (ha : PA X (e :: es) t) (hdb : (x == ("__debug__" : Str)) = false := by decide) (he : starEach (e :: es) X.env = (false, eval e X.env) :: starEach es X.env := by rfl) (hpl : (backTo pos (starEach es X.env)).any (·.1) = false := by rfl) :
    PE X (.Call (.Name x p) (e :: es) [] pos) (tCall sp dvs E t) := by
  intro pins s σ H Q I h
  refine wpAny_Call_Name_kw (ld_glob I hg hm ?_ hdb)
  refine PySem.W.callWith_K (h₀ := X.base) I.ok.mod.kin hk (thn (ha pos pins s σ H _ I h) fun us s1 ⟨vs, H1, I1, r, q⟩ => ⟨I1.kIn, ?_⟩) he hpl
  exact run_fn F hr hb hd hx I1 r q
end

/-! ### keywords -/
def PK (X : Cx) (kws : List Keyword) (t : TA) : Prop :=
  ∀ (pos : Pos) (pins : List (Addr × Obj)) (s : Shared) (σ : St) (H : Hp) (Q : List V → Hp → Prop), Inv X pins σ H s → t σ H Q → wpAny (model X.prog X.w) X.A (evalAll ((backToKw pos (keywordEach kws X.env)).map (·.2))) (AP X pins σ Q) X.xe s
section
variable {X : Cx} {CX : CXT} {k : Nat} {f C : Addr} {fd : FuncData} {ps ks : List Str} {sp : Sp} {E : XK} {x m : Str} {p pos apos kpos : Pos} {e o : Expr} {es : List Expr} {kws : List Keyword} {te ta : TE} {t tk : TA} {nm : Option Str}
theorem pk_nil : PK X [] tNil := fun _ _ _ _ H Q I h => wpAny_evalAll_nil ⟨[], H, I, .nil, h⟩
theorem pk_cons (ha : PE X e te) (hr : PK X kws t) : PK X (⟨nm, e, kpos⟩ :: kws) (tCons te t) := by
  intro pos pins s σ H Q I h
  show wpAny _ _ (evalAll ((do let v ← eval e X.env; standAt pos; pure v) :: (backToKw pos (keywordEach kws X.env)).map (·.2))) _ _ s
  refine wpAny_evalAll_cons (wpAny_bind (thn (ha pins s σ H _ I h) fun u s1 ⟨x, H1, I1, r1, q1⟩ => wpAny_bind (wpAny_standAt (wpAny_pure ?_))))
  exact thn (hr pos pins s1 σ H1 _ I1 q1) fun us s2 ⟨xs, H2, I2, r2, q2⟩ => ⟨x :: xs, H2, I2, .cons r1 r2, q2⟩

variable {g : List Value → List Value → List Value} {gV : List V → List V → List V}
end

/-! ### a def's body keeps its promise -/
structure FnScope (N P : List Str) (sc : Scope) : Prop where
  kind : sc.kind = .function
  co : sc.isCoroutine = false
  gen : sc.isGenerator = false
  nd : N.Nodup
  pre : N.take P.length = P
  par : ∀ x ∈ P, sc.names.lookup x = some .local ∨ sc.names.lookup x = some .cell
  nofree : ∀ y ∈ sc.names, y.2 ≠ .free

theorem bindL_out {kindOf : Str → Option NameKind} {x : Str} : ∀ {binds : List (Str × Value)} {m : Str → Option Value}, (∀ v, (x, v) ∉ binds) → bindL kindOf binds m x = m x
  | [], _, _ => rfl
  | (n, v) :: r, m, h => by
    unfold bindL
    rw [bindL_out fun w hw => h w (List.mem_cons_of_mem _ hw)]
    split
    · have : x ≠ n := by rintro rfl; exact h v List.mem_cons_self
      simp [this]
    · rfl
theorem bindC_out {kindOf : Str → Option NameKind} {x : Str} : ∀ {binds : List (Str × Value)} {m : Str → Option Value}, (∀ v, (x, v) ∉ binds) → bindC kindOf binds m x = m x
  | [], _, _ => rfl
  | (n, v) :: r, m, h => by
    unfold bindC
    rw [bindC_out fun w hw => h w (List.mem_cons_of_mem _ hw)]
    split
    · rfl
    · have : x ≠ n := by rintro rfl; exact h v List.mem_cons_self
      simp [this]
theorem bindL_get {kindOf : Str → Option NameKind} {x : Str} {v : Value} : ∀ {P : List Str} {vs : List Value} {i : Nat} {m : Str → Option Value}, P.Nodup → P[i]? = some x → vs[i]? = some v → kindOf x = some .local →
    bindL kindOf (P.zip vs) m x = some v
  | [], _, _, _, _, h, _, _ => by simp at h
  | _ :: _, [], _, _, _, _, h, _ => by simp at h
  | p :: P, w :: vs, 0, m, nd, h1, h2, hk => by
    simp at h1 h2; subst h1; subst h2
    show bindL kindOf ((p, w) :: P.zip vs) m p = _
    unfold bindL
    rw [bindL_out fun v hv => (List.nodup_cons.mp nd).1 (List.of_mem_zip hv).1, if_pos hk]
    simp
  | p :: P, w :: vs, i + 1, m, nd, h1, h2, hk => by
    show bindL kindOf ((p, w) :: P.zip vs) m x = _
    unfold bindL
    exact bindL_get (i := i) (List.nodup_cons.mp nd).2 (by simpa using h1) (by simpa using h2) hk
theorem bindC_get {kindOf : Str → Option NameKind} {x : Str} {v : Value} : ∀ {P : List Str} {vs : List Value} {i : Nat} {m : Str → Option Value}, P.Nodup → P[i]? = some x → vs[i]? = some v → kindOf x ≠ some .local →
    bindC kindOf (P.zip vs) m x = some v
  | [], _, _, _, _, h, _, _ => by simp at h
  | _ :: _, [], _, _, _, _, h, _ => by simp at h
  | p :: P, w :: vs, 0, m, nd, h1, h2, hk => by
    simp at h1 h2; subst h1; subst h2
    show bindC kindOf ((p, w) :: P.zip vs) m p = _
    unfold bindC
    rw [bindC_out fun v hv => (List.nodup_cons.mp nd).1 (List.of_mem_zip hv).1, if_neg hk]
    simp
  | p :: P, w :: vs, i + 1, m, nd, h1, h2, hk => by
    show bindC kindOf ((p, w) :: P.zip vs) m x = _
    unfold bindC
    exact bindC_get (i := i) (List.nodup_cons.mp nd).2 (by simpa using h1) (by simpa using h2) hk

def start (N : List Str) (vs : List V) : St := vs.map some ++ List.replicate (N.length - vs.length) none

def cxOf (CX : CXT) (P : Program) (w : World) (K : PySem.W.Frag) (mg : Str → Option Value) (base : Heap) (N : List Str) (qual : Str) (scope : Scope) (f : Addr) (cd : Value) (A : Around) (outer : List Env) (s : Shared) (H : Hp) (E : XK) : Cx where
  prog := P
  w := w
  K := K
  mg := mg
  base := base
  A := A.deeper (envOfC qual scope s.heap.objs.size f cd)
  N := N
  s₀ := s
  H₀ := H
  env := envOfC qual scope s.heap.objs.size f cd
  outer := outer
  stack := envOfC qual scope s.heap.objs.size f cd :: outer
  ex := []
  calm := true
  fn := fun _ => true
  pn := []
  xe := fun e s' => wpAny (model P w) (A.deeper (envOfC qual scope s.heap.objs.size f cd)) (leaving (envOfC qual scope s.heap.objs.size f cd) e) (fun _ s'' => CX outer H s E e s'') (fun e' s'' => CX outer H s E e' s'') s'

theorem cell_has {sc : Scope} {n : Nat} {x : Str} (h : sc.names.lookup x = some .cell) : ∃ c, (cellsFrom n sc.names []).lookup x = some c := by
  have q := PySem.W.cellsFrom_some sc.names n [] (.inl h)
  exact Option.isSome_iff_exists.mp q

theorem inv_start {CX : CXT} {P : Program} {w : World} {K : PySem.W.Frag} {mg : Str → Option Value} {base : Heap} {N ps : List Str} {qual : Str} {scope : Scope} {f : Addr} {cd : Value} {A : Around} {outer : List Env} {s s1 : Shared} {H : Hp} {E : XK} {us : List Value} {vs : List V}
    (S : FnScope N ps scope) (hd : A.handled = none) (e0 : Env0 P w K mg base A outer s H) (hl : vs.length = ps.length) (r : Vals vs us)
    (x : InCallC s s.heap.objs.size (bindL (envOfC qual scope s.heap.objs.size f cd).kindOf (ps.zip us) fun _ => none) (cellsFrom (s.heap.objs.size + 1) scope.names []) (bindC (envOfC qual scope s.heap.objs.size f cd).kindOf (ps.zip us) fun _ => none) s1) :
    Inv (cxOf CX P w K mg base N qual scope f cd A outer s H E) [] (start N vs) H s1 := by
  have hpl : ps.length ≤ N.length := by have := congrArg List.length S.pre; rw [List.length_take] at this; omega
  obtain ⟨h1, tk, rfl, hk⟩ := x.done
  have noA : ∀ b : Addr, b ∉ (cxOf CX P w K mg base N qual scope f cd A outer s H E).ex := fun b z => absurd (show b ∈ ([] : List Addr) from z) (by simp)
  refine ⟨⟨e0.mod, S.kind, rfl, rfl, Nat.le_refl _, fun y z c h1 h2 => ?_, fun y hy => ?_, fun y c _ h => ?_, fun _ => hd, Around.frames_deeper e0.frames, .inr ⟨rfl, rfl⟩, fun b z => absurd z (noA b), e0.bs, e0.bsz, fun b _ _ => noA b, fun b z => absurd z (noA b), e0.funs, e0.frf⟩,
    rfl, e0.bare, Un.kept hk, ⟨_, x.toInCall.ns, fun i y v h1 h2 h3 => ?_⟩, fun y c h => ⟨_, x.cell y c h⟩, e0.hok.fresh (Nat.le_refl _), fun y c h => ?_, fun p hp => absurd (show p ∈ ([] : List (Addr × Obj)) from hp) (by simp), e0.hok.kept hk, ?_⟩
  · exact name_of_addr x.apart (PySem.mem_of_lookup h1) (PySem.mem_of_lookup h2)
  · have hy : scope.names.lookup y = some .cell ∨ scope.names.lookup y = some .free := hy
    rcases hy with hy | hy
    · exact cell_has hy
    · exact absurd rfl (S.nofree _ (PySem.mem_of_lookup hy))
  · exact Nat.le_of_lt (x.above y c (PySem.mem_of_lookup h))
  · have hi : i < vs.length := by
      unfold start at h2
      by_cases hi : i < vs.length
      · exact hi
      · rw [List.getElem?_append_right (by simpa using hi)] at h2
        rw [List.getElem?_replicate] at h2
        split at h2 <;> cases h2
    have ha : vs[i]? = some v := by
      unfold start at h2
      rw [List.getElem?_append_left (by simpa using hi), List.getElem?_map] at h2
      cases e : vs[i]? with
      | none => rw [e] at h2; cases h2
      | some a => rw [e] at h2; cases h2; rfl
    obtain ⟨u, hu, rv⟩ := r.get ha
    have hp : ps[i]? = some y := by
      rw [← S.pre, List.getElem?_take_of_lt (by omega)]; exact h1
    have ndP : ps.Nodup := by rw [← S.pre]; exact S.nd.sublist (List.take_sublist _ _)
    refine ⟨u, rv, ?_⟩
    rcases S.par y (List.mem_of_getElem? hp) with k | k
    · exact .inl ⟨k, bindL_get ndP hp hu k⟩
    · obtain ⟨c, e⟩ := cell_has (n := s.heap.objs.size + 1) k
      refine .inr ⟨.inl k, c, e, ?_⟩
      have q := x.cell y c e
      rw [bindC_get ndP hp hu (by show scope.names.lookup y ≠ _; rw [k]; decide)] at q
      exact q
  · exact e0.hok.fresh (Nat.le_of_lt (x.above y c (PySem.mem_of_lookup h)))
  · unfold start
    show _ = N.length
    rw [List.length_append, List.length_map, List.length_replicate]
    omega

theorem fn_of {CX : CXT} {P : Program} {w : World} {K : PySem.W.Frag} {mg : Str → Option Value} {base : Heap} {k : Nat} {f : Addr} {name qual : Str} {params : Arguments} {body : List Stmt} {scope : Scope} {dV kV doc pm cdv ct oc : Value} {an od : Option Addr}
    {osl : Array (Option Value)} {N ps : List Str} {sp : Sp} (lk : K.lookup f = some ⟨oc, od, .func (PySem.W.fnOf name qual params body scope dV kV doc pm an cdv ct), osl⟩) (hcd : PySem.W.codeIn K cdv qual = true) (S : FnScope N ps scope)
    (len : ∀ vs H Q E, sp vs H Q E → vs.length = ps.length)
    (hbody : ∀ (A : Around) (outer : List Env) (s : Shared) (H : Hp) (vs : List V) (Q : VK) (E : XK), Room k (A.deeper (envOfC qual scope s.heap.objs.size f cdv)) → sp vs H Q E →
      ∃ t, PSs (cxOf CX P w K mg base N qual scope f cdv A outer s H E) body t ∧ t { nx := fun _ H' => Q .non H', rt := Q } (start N vs) H) :
    FnOk P w K mg base CX (k + 1) f (PySem.W.fnOf name qual params body scope dV kV doc pm an cdv ct) ps sp := by
  refine ⟨len, fun A outer s H args us vs Q E hr e0 hb r hsp => ?_⟩
  have hl := len _ _ _ _ hsp
  have KX : K.In s.heap := e0.mod.kin.keeps fun b o e => (e0.bs b o e).1
  have lim : s.heap.NoLimit := e0.mod.nolimit.keeps fun b o e => (e0.bs b o e).1
  have hkind : ∀ y ∈ ps.zip us, scope.names.lookup y.1 = some .local ∨ (scope.names.lookup y.1 = some .cell ∧ ((cellsFrom (s.heap.objs.size + 1) scope.names []).lookup y.1).isSome = true) := fun ⟨n, v⟩ hy => by
    rcases S.par n (List.of_mem_zip hy).1 with q | q
    · exact .inl q
    · exact .inr ⟨q, PySem.W.cellsFrom_some _ _ _ (.inl q)⟩
  refine codeAny_call_function hr.depth (KX _ _ lk) rfl S.co S.gen rfl (PySem.W.codeRec_of KX hcd) (hb _ _ _ _ ?_)
  refine wpAny_newFunctionEnv_cells S.kind hkind fun env he s1 x => ?_
  subst he
  refine ⟨lim.keeps x.toInCall.keep, codeAny_func ?_⟩
  obtain ⟨t, ht, hq⟩ := hbody A outer s H vs Q E (hr.deeper _) hsp
  have I : Inv (cxOf CX P w K mg base N qual scope f cdv A outer s H E) [] (start N vs) H s1 := inv_start S hr.hd e0 hl r x
  refine wpAny_mono (ht [] s1 (start N vs) H _ I hq) (fun fl s' hs => ?_) fun e s' hs => hs
  have fin : ∀ {σ' : St} {H' : Hp} {v : V} {u : Value}, Inv (cxOf CX P w K mg base N qual scope f cdv A outer s H E) [] σ' H' s' → RelV v u → Q v H' → CE outer P w H s Q u s' :=
    fun {σ' H' v u} J rv q => ⟨v, H', J.os, J.bare, J.base, J.hok, rv, q⟩
  cases fl with
  | ret u =>
    obtain ⟨v, σ', H', J, rv, q⟩ := hs
    exact fin J rv q
  | next =>
    obtain ⟨σ', H', J, q⟩ := hs
    exact fin (v := V.non) (u := Value.none) J rfl q
  | brk =>
    obtain ⟨_, _, _, q⟩ := hs
    exact False.elim q
  | cont =>
    obtain ⟨_, _, _, q⟩ := hs
    exact False.elim q
end L2

namespace L2
open PySem PySem.Spec PyProof.Rows
section
variable {X : Cx} {x : Str} {p pos : Pos} {e : Expr} {es : List Expr} {t : TA} {id T : String} {r : List V → Hp → VK → Prop}

def tCB (r : List V → Hp → VK → Prop) (t : TA) : TE := fun σ H Q => t σ H fun vs H1 => r vs H1 Q
theorem pe_callB (hc : CallR X (.builtin id) r) (hg : Gl X x) (hm : X.mg x = none) (hv : bootBuiltins x = some (.builtin id)) (ha : PA X (e :: es) t) (hn : x ≠ "__name__" := by decide) (hdb : (x == ("__debug__" : Str)) = false := by decide)
    (he : starEach (e :: es) X.env = (false, eval e X.env) :: starEach es X.env := by rfl) (hpl : (backTo pos (starEach es X.env)).any (·.1) = false := by rfl) : PE X (.Call (.Name x p) (e :: es) [] pos) (tCB r t) := by
  intro pins s σ H Q I h
  refine wpAny_Call_Name_kw (ld_blt I hg hm hv ?_ hn hdb)
  exact PyProof.Rows.callWith_builtin1 (thn (ha pos pins s σ H _ I h) fun us s1 ⟨vs, H1, I1, r1, q1⟩ => hc pins s1 σ H1 vs us Q I1 r1 q1) he hpl
theorem pe_callTy (hc : CallR X (.type T) r) (hg : Gl X x) (hm : X.mg x = none) (hv : bootBuiltins x = some (.type T)) (ha : PA X (e :: es) t) (hn : x ≠ "__name__" := by decide) (hdb : (x == ("__debug__" : Str)) = false := by decide)
    (he : starEach (e :: es) X.env = (false, eval e X.env) :: starEach es X.env := by rfl) (hpl : (backTo pos (starEach es X.env)).any (·.1) = false := by rfl) : PE X (.Call (.Name x p) (e :: es) [] pos) (tCB r t) := by
  intro pins s σ H Q I h
  refine wpAny_Call_Name_kw (ld_blt I hg hm hv ?_ hn hdb)
  exact PyProof.Rows.callWith_type1 (thn (ha pos pins s σ H _ I h) fun us s1 ⟨vs, H1, I1, r1, q1⟩ => hc pins s1 σ H1 vs us Q I1 r1 q1) he hpl
end
end L2

namespace HT
open PySem PyProof.Rows

section
open PySem.SeqAt
open PySem.AutoSeq1 (wpAny_loadPart')
open PySem.MeetsSeq PySem.MeetsSeq2 PySem.MeetsSeq3

end

section
variable {prog : Program} {w : World} {A : Around} {E : Value → Shared → Prop} {s : Shared}

/-! ### t[a:b], not the whole -/
def sIx (n d : Nat) : Option Int → Nat
  | none => d
  | some v => if v < 0 then (v + (n : Int)).toNat else min v.toNat n
theorem sIx_nat (n d k : Nat) : sIx n d (some (k : Int)) = min k n := by
  show (if (k : Int) < 0 then ((k : Int) + (n : Int)).toNat else min (k : Int).toNat n) = min k n
  rw [if_neg (by omega), Int.toNat_natCast]
end
end HT

namespace L2
open PySem PySem.Spec PyProof.Rows

/-! ### the parts of a slice -/
abbrev TO := St → Hp → (Option Int → Hp → Prop) → Prop
def PO (X : Cx) (e : Option Expr) (t : TO) : Prop :=
  ∀ (pins : List (Addr × Obj)) (s : Shared) (σ : St) (H : Hp) (Q : Option Int → Hp → Prop), Inv X pins σ H s → t σ H Q →
    wpAny (model X.prog X.w) X.A (evalPart e X.env) (fun u s' => ∃ o H', Inv X pins σ H' s' ∧ IsPart u o ∧ Q o H') X.xe s
def tNoPart : TO := fun _ H Q => Q none H
def tPart (t : TE) : TO := fun σ H Q => t σ H fun x H1 => ∃ i, x = .int i ∧ Q (some i) H1

theorem intsAre_of {ns : List Int} : ∀ {us : List Value}, Vals (ns.map V.int) us → IntsAre us ns := by
  induction ns with
  | nil => intro us r; rw [List.map_nil] at r; cases r; exact .nil
  | cons n ns ih =>
    intro us r
    rw [List.map_cons] at r
    cases r with
    | cons r1 r2 =>
      obtain ⟨t, e⟩ := r1
      subst e
      exact .cons n t (ih r2)

section
variable {X : Cx} {e : Expr} {te : TE} {lo hi : Option Expr} {tl th : TO} {pos p2 : Pos}

theorem po_none : PO X none tNoPart := by
  intro pins s σ H Q I h
  rw [evalPart_none]
  exact wpAny_pure ⟨none, H, I, .none, h⟩
theorem po_some (h : PE X e te) : PO X (some e) (tPart te) := by
  intro pins s σ H Q I hw
  rw [evalPart_some]
  refine thn (h pins s σ H _ I hw) fun u s1 ⟨x, H1, I1, r1, q1⟩ => ?_
  obtain ⟨i, rfl, q⟩ := q1
  obtain ⟨t, rfl⟩ := r1
  exact ⟨some i, H1, I1, .int i t, q⟩

def SlR (X : Cx) (r : V → Option Int → Option Int → Hp → VK → Prop) : Prop :=
  ∀ (pins : List (Addr × Obj)) (s : Shared) (σ : St) (H : Hp) (x : V) (v vl vu : Value) (lo hi : Option Int) (sl : Addr) (Q : VK), Inv X pins σ H s → RelV x v → s.heap.IsSliceOf sl vl vu .none → IsPart vl lo → IsPart vu hi → r x lo hi H Q →
    ∃ T id, typeLookup (.type T) "__getitem__" = pure (some (.builtin id)) ∧ s.TypeIs v T ∧ wpAny (model X.prog X.w) X.A (getItem v (.ref sl)) (EP X pins σ Q) X.xe s
def tSl (r : V → Option Int → Option Int → Hp → VK → Prop) (te : TE) (tl th : TO) : TE := fun σ H Q => te σ H fun x H1 => tl σ H1 fun l H2 => th σ H2 fun u H3 => r x l u H3 Q
theorem pe_slice {r : V → Option Int → Option Int → Hp → VK → Prop} (hr : SlR X r) (he : PE X e te) (hl : PO X lo tl) (hu : PO X hi th) : PE X (.Subscript e (.Slice lo hi none p2) pos) (tSl r te tl th) := by
  intro pins s σ H Q I h
  refine Subscript_ (thn (he pins s σ H _ I h) fun v s1 ⟨x, H1, I1, r1, q1⟩ => ?_)
  refine wpAny_Slice (thn (hl pins s1 σ H1 _ I1 q1) fun vl s2 ⟨l, H2, I2, pl, q2⟩ => thn (hu pins s2 σ H2 _ I2 q2) fun vu s3 ⟨u, H3, I3, pu, q3⟩ => ?_)
  rw [evalPart_none]
  refine wpAny_pure ?_
  have I4 : Inv X pins σ H3 { s3 with heap := s3.heap.push { cls := .type "slice", data := .fields #[vl, vu, .none] } } := I3.kept (t' := s3.toks) fun b ob q => Heap.get?_push_of_some _ q
  obtain ⟨T, id, hT, ht, hg⟩ := hr pins { s3 with heap := s3.heap.push { cls := .type "slice", data := .fields #[vl, vu, .none] } } σ H3 x v vl vu l u s3.heap.objs.size Q I4 r1 (Heap.IsSliceOf.new ..) pl pu q3
  show wpAny (model X.prog X.w) X.A (subscriptTail e (.Slice lo hi none p2) v (.ref s3.heap.objs.size)) (EP X pins σ Q) X.xe { s3 with heap := s3.heap.push { cls := .type "slice", data := .fields #[vl, vu, .none] } }
  exact tail_any (ops := [.ref s3.heap.objs.size, v]) ht hT hg (by with_unfolding_all rfl)

def cutV (xs : List V) (lo hi : Option Int) : List V := (xs.drop (HT.sIx xs.length 0 lo)).take (HT.sIx xs.length xs.length hi - HT.sIx xs.length 0 lo)
theorem cutV_length (xs : List V) (lo hi : Option Int) : (cutV xs lo hi).length ≤ xs.length := by
  unfold cutV
  rw [List.length_take, List.length_drop]
  omega
/-! ### t < u, t + u -/
end
end L2

namespace L2
open PySem PySem.Spec PyProof.Rows

/-! ### places -/
def ixN (n : Nat) (i : Int) : Option Nat := if 0 ≤ i then (if i < n then some i.toNat else none) else if -(n : Int) ≤ i then some (i + n).toNat else none
def atI {α : Type} (xs : List α) (i : Int) : Option α := (ixN xs.length i).bind fun j => xs[j]?
theorem ixN_seq {n : Nat} {i : Int} {j : Nat} (h : ixN n i = some j) : seqIndex? i n = some j ∧ j < n ∧ -(n : Int) ≤ i ∧ i < n := by
  unfold ixN at h
  by_cases h0 : 0 ≤ i
  · rw [if_pos h0] at h
    by_cases h1 : i < n
    · rw [if_pos h1] at h
      have e : i.toNat = j := Option.some.inj h
      exact ⟨by rw [seqIndex_of h0 h1, e], by omega, by omega, h1⟩
    · rw [if_neg h1] at h; cases h
  · rw [if_neg h0] at h
    by_cases h1 : -(n : Int) ≤ i
    · rw [if_pos h1] at h
      have e : (i + n).toNat = j := Option.some.inj h
      exact ⟨by rw [seqIndex_neg (by omega) h1, e], by omega, h1, by omega⟩
    · rw [if_neg h1] at h; cases h
theorem atI_get {α : Type} {xs : List α} {i : Int} {v : α} (h : atI xs i = some v) : ∃ j, seqIndex? i xs.length = some j ∧ xs[j]? = some v ∧ j < xs.length ∧ -(xs.length : Int) ≤ i ∧ i < xs.length := by
  unfold atI at h
  cases e : ixN xs.length i with
  | none => rw [e] at h; cases h
  | some j =>
    rw [e] at h
    obtain ⟨h1, h2, h3, h4⟩ := ixN_seq e
    exact ⟨j, h1, h, h2, h3, h4⟩
theorem atI_nat {α : Type} {xs : List α} {j : Nat} {v : α} (h : xs[j]? = some v) : atI xs (j : Int) = some v := by
  have hj : j < xs.length := (List.getElem?_eq_some_iff.mp h).1
  have e : ixN xs.length (j : Int) = some j := by
    unfold ixN
    rw [if_pos (by omega), if_pos (by omega)]; simp
  unfold atI; rw [e]; exact h
/-! ### what may be subscripted -/
def PlainIx (b : Expr) : Prop := ∀ o i, subscripted b false o i = operate [o, i] (getItem o i)
def IxR (X : Cx) (r : R2) : Prop :=
  ∀ (value slice : Expr) (pins : List (Addr × Obj)) (s : Shared) (σ : St) (H : Hp) (x y : V) (v u : Value) (Q : VK), Inv X pins σ H s → RelV x v → RelV y u → r x y H Q →
    subscripted slice false v u = operate [v, u] (getItem v u) → wpAny (model X.prog X.w) X.A (subscriptTail value slice v u) (EP X pins σ Q) X.xe s
def MtR (X : Cx) (id : String) (r : V → List V → Hp → VK → Prop) : Prop :=
  ∀ (pins : List (Addr × Obj)) (s : Shared) (σ : St) (H : Hp) (x : V) (xs : List V) (v : Value) (us : List Value) (Q : VK), Inv X pins σ H s → RelV x v → Vals xs us → r x xs H Q →
    wpAny (model X.prog X.w) X.A (call (.builtin id) (v :: us)) (EP X pins σ Q) X.xe s
section
variable {X : Cx} {a b : Expr} {ta tb : TE} {pos : Pos}
theorem pe_ix {r : R2} (hr : IxR X r) (ha : PE X a ta) (hb : PE X b tb) (hs : PlainIx b) : PE X (.Subscript a b pos) (tOp r ta tb) := by
  intro pins s σ H Q I h
  exact Subscript_ (binT ha hb I h fun v u s2 x y H2 I2 rx ry q => hr a b pins s2 σ H2 x y v u Q I2 rx ry q (hs _ _))

def rIxL (K : PySem.W.Frag) : R2 := fun x y H Q => ∃ p xs i v, x = .ref p ∧ y = .int i ∧ SqL K H p xs ∧ atI xs i = some v ∧ Q v H
def rIxT (K : PySem.W.Frag) : R2 := fun x y H Q => ∃ p xs i v, x = .ref p ∧ y = .int i ∧ SqT K H p xs ∧ atI xs i = some v ∧ Q v H
theorem ix_list : IxR X (rIxL X.K) := by
  intro value slice pins s σ H x y v u Q I rx ry h hs
  obtain ⟨p, xs, i, z, rfl, rfl, hq, he, q⟩ := h
  cases rx
  obtain ⟨t, rfl⟩ := ry
  obtain ⟨its, r, pl, hz⟩ := I.list hq
  obtain ⟨j, h1, h2, h3, h4, h5⟩ := atI_get he
  obtain ⟨w, ew, rw'⟩ := r.get h2
  have hl := r.length
  have hn := line63
  have fin : EP X pins σ Q w s := ⟨z, H, I, rw', q⟩
  by_cases h0 : 0 ≤ i
  · have hj : i.toNat = j := by
      rw [seqIndex_of h0 h5] at h1
      exact Option.some.inj h1
    exact item_listR pl.isList h0 (by omega) (by rw [hj]; simpa using ew) fin hs
  · have hj : (i + (its.toArray.size : Int)).toNat = j := by
      rw [seqIndex_neg (by omega) h4] at h1
      rw [List.size_toArray, ← hl]
      exact Option.some.inj h1
    exact subscriptTail_builtinR (x := w) pl.isList.typeIs slot_list_getitem.lookup
      (wpAny_getItem_list_neg (Q := fun r s' => r = w ∧ EP X pins σ Q r s') pl.isList (by omega) (by rw [List.size_toArray] <;> omega) (by omega) (by rw [hj]; simpa using ew) ⟨rfl, fin⟩) hs
theorem ix_tup : IxR X (rIxT X.K) := by
  intro value slice pins s σ H x y v u Q I rx ry h hs
  obtain ⟨p, xs, i, z, rfl, rfl, hq, he, q⟩ := h
  cases rx
  obtain ⟨t, rfl⟩ := ry
  obtain ⟨its, r, pl, hz⟩ := I.tuple hq
  obtain ⟨j, h1, h2, h3, h4, h5⟩ := atI_get he
  obtain ⟨w, ew, rw'⟩ := r.get h2
  have hl := r.length
  have hn := line63
  have fin : EP X pins σ Q w s := ⟨z, H, I, rw', q⟩
  exact subscriptTail_builtinR (x := w) pl.typeIs slot_tuple_getitem.lookup
    (getItem_tuple (j := j) (Q := fun r s' => r = w ∧ EP X pins σ Q r s') pl (by omega) (by omega) (by rw [List.size_toArray, ← hl]; exact h1) (by simpa using ew) ⟨rfl, fin⟩) hs
/-! ### xs[i] = v, any sign -/
theorem mapSeq_set (its : List Value) (n j : Nat) (u : Value) : Obj.mapSeq (·.setIfInBounds j u) { cls := .type "list", data := .seq its.toArray n } = { cls := .type "list", data := .seq (its.set j u).toArray n } := by
  simp [Obj.mapSeq]
theorem Inv.lst {pins : List (Addr × Obj)} {σ : St} {H : Hp} {s : Shared} {p : Addr} {xs : List V} (I : Inv X pins σ H s) (h : H p = some (.lst xs)) :
    ∃ (its : List Value) (n : Nat), Vals xs its ∧ s.heap.get? p = some { cls := .type "list", data := .seq its.toArray n } ∧ xs.length ≤ sizeLine := by
  obtain ⟨z, its, n, r, e⟩ := I.hok p _ h
  exact ⟨its, n, r, e, z⟩
theorem Inv.lstUpd {pins : List (Addr × Obj)} {σ : St} {H : Hp} {s : Shared} {p : Addr} {xs ys : List V} {its its' : List Value} {n n' : Nat} {f : Obj → Obj} (I : Inv X pins σ H s) (h : H p = some (.lst xs))
    (ho : s.heap.get? p = some { cls := .type "list", data := .seq its.toArray n }) (hf : f { cls := .type "list", data := .seq its.toArray n } = { cls := .type "list", data := .seq its'.toArray n' }) (r : Vals ys its') (hz : ys.length ≤ sizeLine) (t : Nat) :
    Inv X pins σ (upd H p (.lst ys)) { s with heap := s.heap.update p f, toks := t } := by
  have e : (s.heap.update p f).get? p = some { cls := .type "list", data := .seq its'.toArray n' } := by
    rw [Heap.get?_update_self f ho (by rw [hf] <;> rfl), hf]
  refine I.write (x := p) (e := p) (by rw [h]; trivial) (.inl rfl) (fun b u hb q => (Heap.get?_update_other _ _ (Ne.symm hb)).trans q) ⟨_, e⟩ ?_
  exact ⟨hz, its', n', r, e⟩
def rSetL : V → V → V → Hp → (Hp → Prop) → Prop := fun o i v H Q => ∃ p xs k j, o = .ref p ∧ i = .int k ∧ H p = some (.lst xs) ∧ ixN xs.length k = some j ∧ Q (upd H p (.lst (xs.set j v)))
theorem set_list : PSet X rSetL := by
  intro pins s σ H o i v ov iv u Q I ro ri rv h
  obtain ⟨p, xs, k, j, rfl, rfl, hp, hj, q⟩ := h
  cases ro
  obtain ⟨t, rfl⟩ := ri
  obtain ⟨its, n, r, ho, hz⟩ := I.lst hp
  obtain ⟨h1, h2, h3, h4⟩ := ixN_seq hj
  have hl := r.length
  have hn := line63
  have I' : Inv X pins σ (upd H p (.lst (xs.set j v))) { s with heap := s.heap.update p (Obj.mapSeq (·.setIfInBounds j u)) } :=
    I.lstUpd hp ho (mapSeq_set its n j u) (r.set rv j) (by rw [List.length_set]; exact hz) s.toks
  by_cases h0 : 0 ≤ k
  · have hk : k.toNat = j := by
      rw [seqIndex_of h0 h4] at h1
      exact Option.some.inj h1
    exact PySem.W.ki_setAt ho h0 (by omega) (by rw [List.size_toArray, ← hl]; exact h4) (by rw [hk]; exact ⟨_, I', q⟩)
  · have hk : (k + (its.toArray.size : Int)).toNat = j := by
      rw [seqIndex_neg (by omega) h3] at h1
      rw [List.size_toArray, ← hl]
      exact Option.some.inj h1
    exact PySem.W.ki_setBack ho (by omega) (by rw [List.size_toArray, ← hl]; exact h3) (by omega) (by rw [hk]; exact ⟨_, I', q⟩)

/-! ### slices -/
theorem slice_bounds (lo hi : Option Int) (n : Nat) : (sliceBounds lo hi none n).1 = ((HT.sIx n 0 lo : Nat) : Int) ∧ (sliceBounds lo hi none n).2.1 = ((HT.sIx n n hi : Nat) : Int) ∧ (sliceBounds lo hi none n).2.2 = 1 := by
  refine ⟨?_, ?_, rfl⟩
  · cases lo with
    | none => simp [sliceBounds, HT.sIx]
    | some i =>
      simp only [sliceBounds, HT.sIx, Option.getD_none, show (1 : Int) > 0 by decide, if_true]
      by_cases h : i < 0
      · simp only [h, if_true] <;> omega
      · simp only [h, if_false] <;> omega
  · cases hi with
    | none => simp [sliceBounds, HT.sIx]
    | some i =>
      simp only [sliceBounds, HT.sIx, Option.getD_none, show (1 : Int) > 0 by decide, if_true]
      by_cases h : i < 0
      · simp only [h, if_true] <;> omega
      · simp only [h, if_false] <;> omega
theorem slicePick_cut (its : List Value) (lo hi : Option Int) : slicePick its.toArray lo hi none = ((its.drop (HT.sIx its.length 0 lo)).take (HT.sIx its.length its.length hi - HT.sIx its.length 0 lo)).toArray := by
  obtain ⟨h1, h2, h3⟩ := slice_bounds lo hi its.toArray.size
  unfold slicePick
  rw [h1, h2, h3]
  simp only [sliceRange_one, pick_run, List.size_toArray] <;> rfl
def rSlL (K : PySem.W.Frag) : V → Option Int → Option Int → Hp → VK → Prop := fun x lo hi H Q => ∃ a xs, x = .ref a ∧ SqL K H a xs ∧ ∀ p, H p = none → Q (.ref p) (upd H p (.lst (cutV xs lo hi)))
theorem sl_list : SlR X (rSlL X.K) := by
  intro pins s σ H x v vl vu lo hi sl Q I rx hs pl pu h
  obtain ⟨a, xs, rfl, hx, q⟩ := h
  cases rx
  obtain ⟨its, r, ht, hz⟩ := I.list hx
  have hlen := r.length
  refine ⟨"list", _, slot_list_getitem.lookup, ht.isList.typeIs, ?_⟩
  refine wpAny_getItem_list_slice ht.isList hs pl pu .none (by simp) ?_ (by rw [List.size_toArray] <;> omega)
  rw [slicePick_cut, ← hlen]
  refine ⟨.ref s.heap.objs.size, _, I.laid (t' := s.toks) (o := .lst (cutV xs lo hi)) (fun b ob q => Heap.get?_push_of_some _ q) (Nat.le_refl _) ?_, rfl, q _ (I.hok.fresh (Nat.le_refl _))⟩
  exact ⟨Nat.le_trans (cutV_length xs lo hi) hz, _, 0, (r.drop (HT.sIx xs.length 0 lo)).take (HT.sIx xs.length xs.length hi - HT.sIx xs.length 0 lo), Heap.get?_push_size _ rfl⟩

/-! ### in, not in: flat items -/
/-! ### len, list(x), tuple(x) of any list or tuple that is read -/
theorem call_len_seq : CallR X (.builtin "len") (fun xs H Q => ∃ p ys, xs = [.ref p] ∧ (SqL X.K H p ys ∨ SqT X.K H p ys) ∧ Q (.int ys.length) H) := by
  intro pins s σ H xs us Q I r h
  obtain ⟨p, ys, rfl, hq, q⟩ := h
  obtain ⟨u, rfl, rx⟩ := vals1 r
  cases rx
  have hn := line63
  rcases hq with hq | hq
  · obtain ⟨its, r', pl, hz⟩ := I.list hq
    have hlen := r'.length
    exact Calls.call_len_list pl.isList (by simp only [List.size_toArray] <;> omega) ⟨.int ys.length, H, I.tok _, ⟨s.toks + 1, by rw [List.size_toArray, hlen]⟩, q⟩
  · obtain ⟨its, r', pl, hz⟩ := I.tuple hq
    have hlen := r'.length
    exact len_tuple pl (by simp only [List.size_toArray] <;> omega) ⟨.int ys.length, H, I.tok _, ⟨s.toks + 1, by rw [List.size_toArray, hlen]⟩, q⟩
theorem call_list_of : CallR X (.type "list") (fun xs H Q => ∃ p ys, xs = [.ref p] ∧ (SqL X.K H p ys ∨ SqT X.K H p ys) ∧ ∀ l, H l = none → Q (.ref l) (upd H l (.lst ys))) := by
  intro pins s σ H xs us Q I r h
  obtain ⟨p, ys, rfl, hq, q⟩ := h
  obtain ⟨u, rfl, rx⟩ := vals1 r
  cases rx
  have fin : ∀ (its : List Value), Vals ys its → ys.length ≤ sizeLine → ∀ (h' : Heap) (c' : Nat), (∀ b o', s.heap.get? b = some o' → h'.get? b = some o') →
      h'.get? s.heap.objs.size = some { cls := .type "list", dict := none, data := .seq its.toArray c', slots := #[] } → EP X pins σ Q (.ref s.heap.objs.size) { s with heap := h' } := fun its r' hz h' c' kp e =>
    ⟨.ref s.heap.objs.size, _, I.laid (t' := s.toks) kp (Nat.le_refl _) (show ObjOk X.prog X.w _ h' _ (.lst ys) from ⟨hz, its, c', r', e⟩), rfl, q _ (I.hok.fresh (Nat.le_refl _))⟩
  rcases hq with hq | hq
  · obtain ⟨its, r', pl, hz⟩ := I.list hq
    have hlen := r'.length
    obtain ⟨o, ho, hc, n, hd⟩ := pl.isList
    exact call_list_seq p (.inl rfl) ho hc hd (fun h' c' kp e => fin its r' hz h' c' kp e) (by simp only [List.size_toArray] <;> omega)
  · obtain ⟨its, r', pl, hz⟩ := I.tuple hq
    have hlen := r'.length
    obtain ⟨o, ho, hc, n, hd⟩ := pl
    exact call_list_seq p (.inr rfl) ho hc hd (fun h' c' kp e => fin its r' hz h' c' kp e) (by simp only [List.size_toArray] <;> omega)
/-! ### the call of a builtin's method: o.m(..) -/
def tyV (K : PySem.W.Frag) (T : String) (x : V) (H : Hp) : Prop := match x with
  | .str _ => T = "str"
  | .int _ => T = "int"
  | .ref p => (T = "list" ∧ ∃ xs, SqL K H p xs) ∨ (T = "tuple" ∧ ∃ o, K.lookup p = some o ∧ o.cls = .type "tuple" ∧ o.dict = none) ∨
      (T = "dict" ∧ ((∃ kvs, H p = some (.dK kvs)) ∨ ∃ kvs, H p = some (.dT kvs))) ∨ (T = "set" ∧ ∃ S n, H p = some (.set S n))
  | _ => False
theorem tyV_is {pins : List (Addr × Obj)} {σ : St} {H : Hp} {s : Shared} {T : String} {x : V} {v : Value} (I : Inv X pins σ H s) (r : RelV x v) (ty : tyV X.K T x H) :
    s.TypeIs v T ∧ ∀ a, v = .ref a → ∃ ob, s.heap.get? a = some ob ∧ ob.dict = none := by
  cases x with
  | str z =>
    obtain ⟨t, rfl⟩ := r
    cases (show T = "str" from ty)
    exact ⟨typeIs_str s z t, fun _ e => nomatch e⟩
  | int i =>
    obtain ⟨t, rfl⟩ := r
    cases (show T = "int" from ty)
    exact ⟨typeIs_int s i t, fun _ e => nomatch e⟩
  | ref p =>
    cases r
    rcases ty with ⟨rfl, xs, hq⟩ | ⟨rfl, o, hk, hc, hd⟩ | ⟨rfl, hk⟩ | ⟨rfl, S, n, hk⟩
    · obtain ⟨its, _, pl, _⟩ := I.list hq
      refine ⟨pl.isList.typeIs, fun a e => ?_⟩
      cases e
      obtain ⟨o, n, e, c, hd, _⟩ := pl
      exact ⟨o, e, hd⟩
    · refine ⟨⟨o, I.kIn p o hk, hc⟩, fun a e => ?_⟩
      cases e
      exact ⟨o, I.kIn _ o hk, hd⟩
    · have z : ∃ o, s.heap.get? p = some o ∧ o.ExactDict := by
        rcases hk with ⟨kvs, hk⟩ | ⟨kvs, hk⟩
        · obtain ⟨_, _, _, _, o, _, _, e, ex, _⟩ := I.hok p _ hk
          exact ⟨o, e, ex⟩
        · obtain ⟨_, _, _, _, o, _, _, e, ex, _⟩ := I.hok p _ hk
          exact ⟨o, e, ex⟩
      obtain ⟨o, e, ex⟩ := z
      refine ⟨⟨o, e, ex.1⟩, fun a e2 => ?_⟩
      cases e2
      exact ⟨o, e, ex.2.1⟩
    · obtain ⟨o, _, _, _, e, ex, _⟩ := I.hok p _ hk
      refine ⟨⟨o, e, ex.1⟩, fun a e2 => ?_⟩
      cases e2
      exact ⟨o, e, ex.2.1⟩
  | _ => exact False.elim ty
def tBM0 (K : PySem.W.Frag) (T : String) (r : V → List V → Hp → VK → Prop) (to : TE) : TE := fun σ H Q => to σ H fun x H1 => tyV K T x H1 ∧ r x [] H1 Q
def tBM (K : PySem.W.Frag) (T : String) (r : V → List V → Hp → VK → Prop) (to : TE) (t : TA) : TE := fun σ H Q => to σ H fun x H1 => tyV K T x H1 ∧ t σ H1 fun xs H2 => r x xs H2 Q
variable {o e : Expr} {es : List Expr} {to : TE} {t : TA} {name : Str} {apos cpos : Pos} {T id : String} {r : V → List V → Hp → VK → Prop}
theorem pe_bm0 (pa : PlainAttrs T) (slot : Slot T name id) (hty : typeOf (.builtin id) = pure (.type "method_descriptor")) (hm : MtR X id r) (ho : PE X o to)
    (hbase : attributeBase o name X.env (eval o X.env) = eval o X.env := by rfl) (hline : (apos.endLine == cpos.line) = true := by rfl) : PE X (.Call (.Attribute o name apos) [] [] cpos) (tBM0 X.K T r to) := by
  intro pins s σ H Q I h
  refine wpAny_Call_method0_late hbase hline (thn (ho pins s σ H _ I h) fun v s1 ⟨x, H1, I1, r1, ty, q1⟩ => ?_)
  obtain ⟨h1, h2⟩ := tyV_is I1 r1 ty
  exact ⟨T, id, pa, slot, hty, h1, h2, Calls.callWith_builtin rfl (PySem.evalArgs_none (hm pins s1 σ H1 x [] v [] Q I1 r1 .nil q1))⟩
theorem pe_bm (pa : PlainAttrs T) (slot : Slot T name id) (hty : typeOf (.builtin id) = pure (.type "method_descriptor")) (hm : MtR X id r) (ho : PE X o to) (ha : PA X (e :: es) t)
    (hbase : attributeBase o name X.env (eval o X.env) = eval o X.env := by rfl)
    (hfew : ((backTo cpos (starEach (e :: es) X.env)).all (fun x => !x.1) && (backToKw cpos (keywordEach [] X.env)).all (fun x => x.1.isSome)
      && decide ((e :: es).length + ([] : List Keyword).length + (if ([] : List Keyword).isEmpty then 0 else 1) < 30)) = true := by rfl)
    (hline : (apos.endLine == cpos.line) = true := by rfl) (hs : starEach (e :: es) X.env = (false, eval e X.env) :: starEach es X.env := by rfl) (hplain : (backTo cpos (starEach es X.env)).any (·.1) = false := by rfl) :
    PE X (.Call (.Attribute o name apos) (e :: es) [] cpos) (tBM X.K T r to t) := by
  intro pins s σ H Q I h
  refine wpAny_Call_method_late hbase hfew hline rfl (thn (ho pins s σ H _ I h) fun v s1 ⟨x, H1, I1, r1, ty, q1⟩ => ?_)
  obtain ⟨h1, h2⟩ := tyV_is I1 r1 ty
  refine ⟨T, id, pa, slot, hty, h1, h2, ?_⟩
  have hA := ha cpos pins s1 σ H1 _ I1 q1
  rw [hs] at hA ⊢
  refine Calls.callWith_builtin (by show (false || (backTo cpos (starEach es X.env)).any (·.1)) = false; rw [hplain] <;> rfl) (Calls.evalArgs_plain ?_)
  exact thn hA fun us s2 ⟨vs, H2, I2, r2, q2⟩ => hm pins s2 σ H2 x vs v us Q I2 r1 r2 q2
/- xs.append(e), list.index on a module's tuple .. are MtR facts of 06m -/
end
end L2

namespace L2
open PySem PySem.Spec PyProof.Rows

def MtM (X : Cx) (id : String) (r : V → List V → Hp → VK → Prop) : Prop :=
  ∀ (pins : List (Addr × Obj)) (s : Shared) (σ : St) (H : Hp) (x : V) (xs : List V) (v : Value) (us : List Value) (Q : VK), Inv X pins σ H s → RelV x v → Vals xs us → r x xs H Q →
    wpAny (model X.prog X.w) X.A (call (.builtin id) (v :: us)) (EP X pins σ Q) X.xe s

/-! ### lists of values -/
theorem Vals.one {x : V} {us : List Value} (h : Vals [x] us) : ∃ u, us = [u] ∧ RelV x u := by
  cases h with
  | cons r t => cases t; exact ⟨_, rfl, r⟩
theorem Vals.two {x y : V} {us : List Value} (h : Vals [x, y] us) : ∃ u v, us = [u, v] ∧ RelV x u ∧ RelV y v := by
  cases h with
  | cons r t => cases t with
    | cons q t => cases t; exact ⟨_, _, rfl, r, q⟩
section
variable {X : Cx} {pins : List (Addr × Obj)} {σ : St} {H : Hp} {s : Shared} {l b : Addr} {xs ys zs : List V}

/-! ### the two steps: a tracked list is rewritten, a new list is laid -/
theorem Inv.lset {its its' : List Value} {n : Nat} {f : Array Value → Array Value} {t' : Nat} (I : Inv X pins σ H s) (hH : H l = some (.lst xs))
    (e : s.heap.get? l = some { cls := .type "list", data := .seq its.toArray n }) (hf : f its.toArray = its'.toArray) (hv : Vals ys its') (hz : ys.length ≤ sizeLine) :
    Inv X pins σ (upd H l (.lst ys)) { s with heap := s.heap.update l (Obj.mapSeq f), toks := t' } := by
  have q := PySem.IsL.update e f
  rw [hf] at q
  refine I.write (x := l) (e := l) (by rw [hH]; exact trivial) (.inl rfl) (fun b' u hb hu => (Heap.get?_update_other s.heap (Obj.mapSeq f) (Ne.symm hb)).trans hu) ⟨_, q⟩ ?_
  exact ⟨hz, its', _, hv, q⟩
theorem Inv.lnew {its : List Value} {t' : Nat} (I : Inv X pins σ H s) (hv : Vals ys its) (hz : ys.length ≤ sizeLine) :
    Inv X pins σ (upd H s.heap.objs.size (.lst ys)) { s with heap := s.heap.push { cls := .type "list", data := .seq its.toArray }, toks := t' } :=
  I.laid (fun _ _ q => Heap.get?_push_of_some _ q) (Nat.le_refl _) ⟨hz, its, 0, hv, Heap.get?_push_size _ rfl⟩
theorem Inv.fresh (I : Inv X pins σ H s) : H s.heap.objs.size = none := I.hok.fresh (Nat.le_refl _)
theorem Inv.lstM (I : Inv X pins σ H s) (hH : H l = some (.lst xs)) : xs.length ≤ sizeLine ∧ ∃ (its : List Value) (n : Nat), Vals xs its ∧ xs.length = its.length ∧ s.heap.get? l = some { cls := .type "list", data := .seq its.toArray n } := by
  obtain ⟨z, its, n, r, e⟩ := I.hok l _ hH
  exact ⟨z, its, n, r, r.length, e⟩

theorem notLongL {n : Nat} (h : n ≤ sizeLine) : Builtin.List.listTooLong n = false := by
  unfold Builtin.List.listTooLong
  exact decide_eq_false (by omega)
end

section
variable {X : Cx}

/-! ### methods -/
def rAppend : V → List V → Hp → VK → Prop := fun x vs H Q => ∃ l xs y, x = .ref l ∧ vs = [y] ∧ H l = some (.lst xs) ∧ xs.length < sizeLine ∧ Q .non (upd H l (.lst (xs ++ [y])))
theorem mt_append : MtM X "list.append" rAppend := by
  intro pins s σ H x vs v us Q I rx rv h
  obtain ⟨l, xs, y, rfl, rfl, hH, hz, q⟩ := h
  cases rx
  obtain ⟨u, rfl, ru⟩ := rv.one
  obtain ⟨z, its, n, r, hl, e⟩ := I.lstM hH
  refine call_meets F.slot_list_append ⟨_, e, rfl⟩ F.entry_list_append (F.args_list_append_2 _ _) (PySem.list_append l its.toArray n u (by rw [List.size_toArray]; omega)) ⟨e, ?_⟩
  refine ⟨.non, _, I.lset (its' := its ++ [u]) hH e (by simp) (r.append (.cons ru .nil)) ?_, rfl, q⟩
  rw [List.length_append, List.length_singleton]
  omega

def rExtend : V → List V → Hp → VK → Prop := fun x vs H Q => ∃ l b xs zs, x = .ref l ∧ vs = [.ref b] ∧ H l = some (.lst xs) ∧ H b = some (.lst zs) ∧ xs.length + zs.length ≤ sizeLine ∧ Q .non (upd H l (.lst (xs ++ zs)))
theorem mt_extend : MtM X "list.extend" rExtend := by
  intro pins s σ H x vs v us Q I rx rv h
  obtain ⟨l, b, xs, zs, rfl, rfl, hH, hB, hz, q⟩ := h
  cases rx
  obtain ⟨u, rfl, ru⟩ := rv.one
  cases ru
  obtain ⟨z, its, n, r, hl, e⟩ := I.lstM hH
  obtain ⟨z2, its2, n2, r2, hl2, e2⟩ := I.lstM hB
  have hsz : its.toArray.size + its2.toArray.size ≤ sizeLine := by rw [List.size_toArray, List.size_toArray]; omega
  have hlong : ¬ (!its.toArray.isEmpty && Builtin.List.listTooLong (its.toArray.size + its2.toArray.size)) = true := by
    rw [notLongL hsz, Bool.and_false]
    exact Bool.false_ne_true
  refine call_meets F.slot_list_extend ⟨_, e, rfl⟩ F.entry_list_extend (F.args_list_extend_2 _ _)
    (AutoSeq1.list_extend_list_list_0 l its.toArray n b its2.toArray n2 hlong (by rw [List.size_toArray]; omega) (by omega)) ⟨e, e2, ?_⟩
  refine ⟨.non, _, I.lset (its' := its ++ its2) hH e (by simp) (r.append r2) ?_, rfl, q⟩
  rw [List.length_append]
  omega

/-! ### list + list, list += list, list * int -/
def rCat : R2 := fun x y H Q => ∃ l b xs zs, x = .ref l ∧ y = .ref b ∧ H l = some (.lst xs) ∧ H b = some (.lst zs) ∧ xs.length + zs.length ≤ sizeLine ∧ ∀ p, H p = none → Q (.ref p) (upd H p (.lst (xs ++ zs)))
theorem op_cat : OpR X (binaryOp .Add) rCat := by
  intro pins s σ H x y v u Q I rx ry h
  obtain ⟨l, b, xs, zs, rfl, rfl, hH, hB, hz, q⟩ := h
  cases rx
  cases ry
  obtain ⟨z, its, n, r, hl, e⟩ := I.lstM hH
  obtain ⟨z2, its2, n2, r2, hl2, e2⟩ := I.lstM hB
  refine PySem.P.add_list e e2 ?_ (by rw [List.size_toArray, List.size_toArray]; omega)
  have ea : its.toArray ++ its2.toArray = (its ++ its2).toArray := by simp
  rw [ea]
  exact ⟨.ref _, _, I.lnew (t' := s.toks) (r.append r2) (by rw [List.length_append]; omega), rfl, q _ I.fresh⟩
/-! ### del xs[i] -/
end

/-! ### xs[a:b] = ys -/
section
variable {prog : Program} {w : World} {A : Around} {E : Value → Shared → Prop} {s : Shared}
end

section
variable {X : Cx}
end
end L2

namespace Att
open PySem PySem.W PySem.Calls PyProof.Rows

/-! ### the script -/
theorem ints_of_wellAll {P : Params} {h : Heap} : ∀ (ns : List Int) (vs : List Value), WellAll P h vs (ns.map WData.int) → IntsAre vs ns := by
  intro ns
  induction ns with
  | nil =>
    intro vs w
    rw [List.map_nil] at w
    cases w
    exact .nil
  | cons n ns ih =>
    intro vs w
    rw [List.map_cons] at w
    cases w with
    | cons a b =>
      cases a
      exact .cons _ _ (ih _ b)

theorem script_of {l : OpenLaw} {n : Nat} (hn : l.most = some n) {P : Params} {h : Heap} {args : List WData} {vals : List Value}
    (hpre : l.row.toRowW.claim.pre args = true) (hwl : WellAll P h vals args) :
    ∃ a vs ns, vals = [Value.ref a] ∧ args = [WData.list (ns.map WData.int)] ∧ h.get? a = some { cls := .type "list", data := .seq vs.toArray } ∧ IntsAre vs ns ∧ ns.length ≤ n := by
  have hsh : WShape.hasAll [] args [.list .int] = true := (pre_splitW hpre).1
  have hc : l.pre.holds [] { args := args } = true := (pre_splitW hpre).2
  obtain ⟨d, r, rfl, h1, h2⟩ := hasAllW_cons hsh
  obtain rfl := hasAllW_nil h2
  obtain ⟨xs, rfl, h3⟩ := hasW_list h1
  obtain ⟨ns, rfl⟩ := items_int h3
  have hlen : ns.length ≤ n := by
    unfold OpenLaw.pre at hc
    have h4 : (WTm.not (.lt (.lit (.int (n : Int))) (.len (.arg 0)))).holds [] { args := [.list (ns.map .int)] } = true := by
      have h4 := (holds_andW hc).1
      rw [hn] at h4
      exact h4
    have h5 := condW_of h4 (w_not (w_lt w_lit (w_len_list (w_arg rfl))))
    rw [List.length_map] at h5
    refine Nat.le_of_not_lt fun q => ?_
    have q' : (n : Int) < ((ns.length : Nat) : Int) := by omega
    first
      | (rw [decide_eq_true q'] at h5; exact absurd h5 (by decide))
      | (simp at h5; omega)
  cases hwl with
  | cons w1 w2 =>
    cases w2
    cases w1 with
    | list ho hall => exact ⟨_, _, ns, rfl, rfl, ho, ints_of_wellAll ns _ hall, hlen⟩

theorem post_true (l : OpenLaw) (args : List WData) : l.row.toRowW.claim.post args (.bool true) args = true :=
  postW_of (r := l.row.toRowW) (X := (true == true))
    (show WShape.has [] (.bool true) .bool = true by first | rfl | decide | simp [WShape.has, WShape.arms, WShape.armsAll])
    (show (WTm.eq .res (.lit (.bool true))).value [] { args := args, res := some (.bool true), after := args } = some (.bool (true == true)) from w_eq_bool (w_res rfl) w_lit) rfl

/-! ### the attachment: holds_open's last premise (the goal 'hc' behind k_head) from a wpAny of the law's body -/
theorem attach_call {l : OpenLaw} {n : Nat} {q : Program} {loose : List Str} {XP : (Str → Option Value) → Heap → Prop} {YP : World → Heap → Prop} {d : DefRec}
    (hn : l.most = some n) (hdf : d.params.defaults = [])
    (call : ∀ (w : World) (s₀ s₁ : Shared) (mg mb : Str → Option Value) (fa : Addr) (o : Obj) (pm cd doc : Value) (a : Addr) (vs : List Value) (ns : List Int),
      Ground q loose [] XP w s₀ mg mb s₁.heap → YP w s₁.heap →
      s₁.heap.get? fa = some o → o.data = .func (docDef d.name d.params d.body d.scope pm cd doc) → s₁.heap.CodeRec cd d.name → mg d.name = some (.ref fa) →
      s₁.heap.get? a = some { cls := .type "list", data := .seq vs.toArray } → IntsAre vs ns → ns.length ≤ n → s₁.gens = #[] →
      codeAny (model l.prog w) callerA (.call (.ref fa) ⟨[.ref a], []⟩) (fun r s' => r = .ok (.ret (.bool true)) ∧ OldK s₁.heap s'.heap ∧ s'.os = s₁.os ∧ AllBare s'.gens) s₁) :
    WalkO q loose XP YP l.row.toRowW d [] (fun f vs => PySem.call f vs) := by
  intro w s₀ s₁ mg mb G Y fa o pm cd doc dV kV ho hd hcd hD hmg hg args vals as hpre hlay hrd hwl hlo
  obtain rfl : dV = .none := Dflts.none hD hdf
  obtain rfl : kV = .none := Dflts.noKw hD
  obtain ⟨a, vs, ns, rfl, rfl, hobj, hints, hlen⟩ := script_of hn hpre hwl
  refine enter_call (codeAny_mono (call w s₀ s₁ mg mb fa o pm cd doc a vs ns G Y ho (fd_plain hd) hcd hmg hobj hints hlen hg) fun r s' hq => ?_)
  obtain ⟨rfl, h2, h3, h4⟩ := hq
  exact ⟨.inl ⟨.bool true, .bool true, [], rfl, fun _ => rfl, .bool true, post_true l _, fun _ => ⟨List.Pairwise.nil, fun _ hm => (nomatch hm)⟩⟩, h2, h3, h4⟩

/-! ### rules over ANY heap (no ledger) from facts about the written part K: the library's own take a ledger (News) for what they write -/
section
variable {prog : Program} {w : World} {A : Around} {E : Value → Shared → Prop} {s : Shared} {K : Frag}

/-! the whole heap as the ledger: makes every rule that writes through a ledger a rule over any heap -/
end
end Att

namespace L2
open PySem PySem.Spec PyProof.Rows

theorem vals_ints : ∀ {vs : List Value} {ns : List Int}, IntsAre vs ns → Vals (ns.map V.int) vs
  | _, _, .nil => .nil
  | _, _, .cons n t h => .cons ⟨t, rfl⟩ (vals_ints h)

def Only (H : Hp) : Prop := ∀ b, H b = none ∨ ∃ o xs, H b = some (.frz o (.lst xs))

theorem law_call {P : Program} {w : World} {K : PySem.W.Frag} {mg mb : Str → Option Value} {CX : CXT} {k : Nat} {fa a : Addr} {fd : FuncData} {x : Str} {sp : Sp} {s₁ : Shared} {vs : List Value} {ns : List Int}
    (KX : K.In s₁.heap) (hns : s₁.heap.Ns mainGlobals mg) (hb : s₁.heap.Ns builtinsNs mb) (hbb : ∀ x : Str, x ≠ "__name__" → mb x = bootBuiltins x) (hlim : s₁.heap.NoLimit) (hg : s₁.gens = #[])
    (ha : s₁.heap.get? a = some { cls := .type "list", data := .seq vs.toArray }) (hi : IntsAre vs ns) (hl : ns.length ≤ sizeLine) (hr : Room k callerA)
    (F : ∀ base : Heap, K.In base → base.Ns mainGlobals mg → FnOk P w K mg base CX k fa fd [x] sp) (hbind : ∀ (s : Shared) (u : Value), BindsTo s fd ⟨[u], []⟩ [(x, u)])
    (hsp : ∀ H : Hp, Only H → SqL K H a (ns.map V.int) → sp [.ref a] H (fun v _ => v = .bl true) fun _ _ _ => False)
    (hCX : ∀ H e s', CX [] H s₁ (fun _ _ _ => False) e s' → False) :
    codeAny (model P w) callerA (.call (.ref fa) ⟨[.ref a], []⟩) (fun r s' => r = .ok (.ret (.bool true)) ∧ OldK s₁.heap s'.heap ∧ s'.os = s₁.os ∧ AllBare s'.gens) s₁ := by
  have rv := vals_ints hi
  have lenV := hi.length
  -- from an abstract heap in which nothing but the script may be tracked
  have core : ∀ H : Hp, Only H → SqL K H a (ns.map V.int) → HOk P w H s₁.heap → (∀ b, H b ≠ none → b = a) → (H a ≠ none → K.lookup a = none) →
      codeAny (model P w) callerA (.call (.ref fa) ⟨[.ref a], []⟩) (fun r s' => r = .ok (.ret (.bool true)) ∧ OldK s₁.heap s'.heap ∧ s'.os = s₁.os ∧ AllBare s'.gens) s₁ := by
    intro H hO hS hok hA hK
    have base_of : ∀ {b : Addr} {o : Obj}, s₁.heap.get? b = some o → H b = none → (hidT s₁.heap H).get? b = some o := fun e n => hidT_get e n
    have noA : ∀ {b : Addr} {o : Obj} {es : Array DictEntry} {ep : Nat}, s₁.heap.get? b = some o → o.data = .dict es ep → H b = none := fun {b o es ep} e d => by
      cases q : H b with
      | none => rfl
      | some u =>
        have e' : b = a := hA b (by rw [q]; simp)
        subst e'
        rw [ha] at e; cases e
        have d' : Data.seq vs.toArray _ = Data.dict es ep := d
        cases d'
    have nsK : ∀ {b : Addr} {m : Str → Option Value}, s₁.heap.Ns b m → (hidT s₁.heap H).Ns b m := fun {b m} ⟨o, es, ep, e, d, r⟩ => ⟨o, es, ep, base_of e (noA e d), d, r⟩
    have hKb : K.In (hidT s₁.heap H) := fun b o e => base_of (KX b o e) (by
      cases q : H b with
      | none => rfl
      | some u =>
        have e' : b = a := hA b (by rw [q]; simp)
        subst e'
        rw [hK (by rw [q]; simp)] at e; cases e)
    have hM : Mod K mg (hidT s₁.heap H) := ⟨hKb, nsK hns, ⟨mb, nsK hb, hbb⟩, let ⟨mc, h1, h2⟩ := hlim; ⟨mc, nsK h1, h2⟩⟩
    have e0 : Env0 P w K mg (hidT s₁.heap H) callerA [] s₁ H := ⟨rfl, hM, fun b o e => of_hidT e, Nat.le_of_eq (hidT_size _ _), trivial, fun b hb => absurd (show b ∈ ([] : List Addr) from hb) (by simp), hok, .of_eq hg⟩
    refine codeAny_mono ((F _ hKb (nsK hns)).run callerA [] s₁ H ⟨[.ref a], []⟩ [.ref a] [.ref a] _ _ hr e0 (hbind s₁ (.ref a)) (.cons rfl .nil) (hsp H hO hS)) fun r s' h => ?_
    cases r with
    | error e => exact (hCX H e s' h).elim
    | ok fl =>
      cases fl with
      | next => exact False.elim h
      | brk => exact False.elim h
      | cont => exact False.elim h
      | ret u =>
        obtain ⟨v, H', os, bare, un, hok', r', q⟩ := h
        have q' : v = .bl true := q
        subst q'
        obtain rfl : u = Value.bool true := r'
        refine ⟨rfl, OldK.of_keep fun b o e => ?_, os, bare⟩
        cases q : H b with
        | none => exact un.keep b o e q (by intro z; exact absurd (show b ∈ ([] : List Addr) from z) (by simp)) (by simp)
        | some u =>
          rcases hO b with z | ⟨ob, xs, z⟩
          · rw [q] at z; cases z
          · have z2 := un.frzs b ob _ z
            obtain ⟨e1, _⟩ := hok b _ z
            obtain ⟨e2, _⟩ := hok' b _ z2
            rw [e] at e1; cases e1
            exact e2
  cases hk : K.lookup a with
  | some o =>
    -- the script is one of the module's own objects
    have e := KX a o hk
    rw [ha] at e
    cases e
    refine core (fun _ => none) (fun _ => .inl rfl) (.inr ⟨_, vs.toArray, _, hk, rfl, rfl, rfl, by rw [List.size_toArray, lenV]; exact hl, by simpa using rv⟩) (fun b u z => by have z' : (none : Option HO) = some u := z; cases z') (fun b z => absurd rfl z) fun z => absurd rfl z
  | none =>
    refine core (fun b => if b = a then some (.frz { cls := .type "list", data := .seq vs.toArray } (.lst (ns.map V.int))) else none) (fun b => ?_) (.inl (.inr ⟨{ cls := .type "list", data := .seq vs.toArray }, if_pos rfl⟩)) (fun b u z => ?_) (fun b z => ?_) fun _ => hk
    · by_cases hb : b = a
      · exact .inr ⟨_, _, if_pos hb⟩
      · exact .inl (if_neg hb)
    · by_cases hb : b = a
      · have z' := (if_pos hb).symm.trans z
        cases z'
        subst hb
        exact ⟨ha, by rw [List.length_map]; exact hl, vs, _, rv, ha⟩
      · have z' := (if_neg hb).symm.trans z
        cases z'
    · by_cases hb : b = a
      · exact hb
      · exact absurd (if_neg hb) z
end L2

namespace L2
open PySem PySem.Spec PyProof.Rows

theorem walk_of {l : PySem.W.OpenLaw} {n k : Nat} {q : Program} {loose : List Str} {XP : (Str → Option Value) → Heap → Prop} {YP : World → Heap → Prop} {d : DefRec} {K : Params → PySem.W.Frag} {CX : World → CXT} {sp : World → Sp} {x : Str}
    (hn : l.most = some n) (hn2 : n ≤ sizeLine) (hdf : d.params.defaults = []) (hr : Room k callerA)
    (hY : ∀ (w : World) (h : Heap), YP w h → (K w.params).In h)
    (F : ∀ (w : World) (mg : Str → Option Value) (fa : Addr) (h : Heap), (K w.params).In h → h.Ns mainGlobals mg → mg d.name = some (.ref fa) →
      ∃ fd : FuncData, (∀ (s : Shared) (u : Value), BindsTo s fd ⟨[u], []⟩ [(x, u)]) ∧
        ∀ base : Heap, (K w.params).In base → base.Ns mainGlobals mg → FnOk l.prog w (K w.params) mg base (CX w) k fa fd [x] (sp w))
    (hsp : ∀ (w : World) (H : Hp) (a : Addr) (ns : List Int), ns.length ≤ n → Only H → SqL (K w.params) H a (ns.map V.int) → sp w [.ref a] H (fun v _ => v = .bl true) fun _ _ _ => False)
    (hCX : ∀ (w : World) (H : Hp) (s : Shared) (e : Value) (s' : Shared), CX w [] H s (fun _ _ _ => False) e s' → False) :
    PySem.W.WalkO q loose XP YP l.row.toRowW d [] (fun f vs => PySem.call f vs) := by
  refine Att.attach_call hn hdf fun w s₀ s₁ mg mb fa o pm cd doc a vs ns G Y ho hd hcd hmg hobj hints hlen hg => ?_
  have KX := hY w _ Y
  obtain ⟨fd, hb, hF⟩ := F w mg fa _ KX G.T.g hmg
  exact law_call KX G.T.g G.T.b G.T.builtins G.T.nolimit hg hobj hints (Nat.le_trans hlen hn2) hr hF hb (fun H hO hS => hsp w H a ns hlen hO hS) fun H e s' => hCX w H s₁ e s'
end L2


/-! SHORT WORDS over the layer: a def of the text, its body, what a loop and a test want. -/
namespace L2
open PySem PySem.Spec PyProof.Rows

/-! ### the text by places -/
def defArgs (s : Stmt) : Arguments := match s with
  | .FunctionDef _ a _ _ _ _ _ _ _ _ => a
  | _ => { posonlyargs := [], args := [], vararg := none, kwonlyargs := [], kw_defaults := [], kwarg := none, defaults := [] }
def defBody (s : Stmt) : List Stmt := match s with
  | .FunctionDef _ _ b _ _ _ _ _ _ _ => b
  | _ => []
def defScope (s : Stmt) : Scope := match s with
  | .FunctionDef _ _ _ _ _ _ sc _ _ _ => sc
  | _ => { kind := .function, names := [], isGenerator := false, isCoroutine := false }

/-! ### no exception leaves a def -/
abbrev CX0 : CXT := fun _ _ _ _ _ _ => False
abbrev E0 : XK := fun _ _ _ => False
theorem pass0 {X : Cx} : Passes CX0 X E0 := fun _ _ _ _ _ _ _ h => h.elim

/-! ### a def (or method) of the text as it stands behind the top -/
structure Fun (K : PySem.W.Frag) (x qual : Str) (st : Stmt) (f : Addr) (fd : FuncData) : Prop where
  ex : ∃ (oc : Value) (od : Option Addr) (kV doc pm : Value) (an : Option Addr) (cdv ct : Value) (osl : Array (Option Value)),
    fd = PySem.W.fnOf x qual (defArgs st) (defBody st) (defScope st) .none kV doc pm an cdv ct ∧ K.lookup f = some ⟨oc, od, .func fd, osl⟩ ∧ PySem.W.codeIn K cdv qual = true
  kp : PySem.W.keepIn K (.ref f) = true
section
variable {P : Program} {w : World} {K : PySem.W.Frag} {mg : Str → Option Value} {base : Heap}
theorem Fun.ok {x qual : Str} {st : Stmt} {f : Addr} {fd : FuncData} {N ps : List Str} {k : Nat} {sp : Sp} (F : Fun K x qual st f fd) (S : FnScope N ps (defScope st)) (len : ∀ vs H Q E, sp vs H Q E → vs.length = ps.length)
    (hbody : ∀ (cdv : Value) (A : Around) (outer : List Env) (s : Shared) (H : Hp) (vs : List V) (Q : VK) (E : XK), Room k (A.deeper (envOfC qual (defScope st) s.heap.objs.size f cdv)) → sp vs H Q E →
      ∃ t, PSs (cxOf CX0 P w K mg base N qual (defScope st) f cdv A outer s H E).nox (defBody st) t ∧ t { nx := fun _ H' => Q .non H', rt := Q } (start N vs) H) : FnOk P w K mg base CX0 (k + 1) f fd ps sp := by
  obtain ⟨oc, od, kV, doc, pm, an, cdv, ct, osl, rfl, lk, hcd⟩ := F.ex
  refine fn_of lk hcd S len fun A outer s H vs Q E hr hsp => ?_
  obtain ⟨t, h, q⟩ := hbody cdv A outer s H vs Q E hr hsp
  exact ⟨t, h.nox, q⟩
theorem fun_mk {x qual : Str} {st : Stmt} {f : Addr} {oc : Value} {od an : Option Addr} {osl : Array (Option Value)} {kV doc pm cdv ct : Value} (l : K.lookup f = some ⟨oc, od, .func (PySem.W.fnOf x qual (defArgs st) (defBody st) (defScope st) .none kV doc pm an cdv ct), osl⟩)
    (c : PySem.W.codeIn K cdv qual = true) (k : PySem.W.keepIn K (.ref f) = true) : Fun K x qual st f (PySem.W.fnOf x qual (defArgs st) (defBody st) (defScope st) .none kV doc pm an cdv ct) := ⟨⟨oc, od, kV, doc, pm, an, cdv, ct, osl, rfl, l, c⟩, k⟩
end
theorem hu_of {A : Around} {k : Nat} (hr : Room k A) : A.units + 1 < cLine := Nat.lt_of_le_of_lt (Nat.add_le_add_left (by decide : 1 ≤ 64) _) hr.units
/-! ### expressions in short: the name that stands in the i-th slot -/
section
variable {X : Cx}
theorem pv (i : Nat) {x : Str} {pos : Pos} (hN : X.N[i]? = some x := by rfl) (hv : Vis X.env.scope x := by first | exact Or.inl rfl | exact Or.inr (Or.inl rfl) | exact Or.inr (Or.inr rfl)) (hd : (x == ("__debug__" : Str)) = false := by decide)
    (hcd : (x == ("__classdict__" : Str)) = false := by decide) : PE X (.Name x pos) (tVar i) := pe_var hN hv hd hcd
end

/-! ### tests -/
theorem iteF {A B : Prop} (h : B) : if false = true then A else B := by
  rw [if_neg Bool.false_ne_true]
  exact h
theorem iteT {A B : Prop} (h : A) : if true = true then A else B := by
  rw [if_pos rfl]
  exact h
/-! ### heaps -/
def Same (H H' : Hp) : Prop := ∀ b o, H b = some o → H' b = some o
theorem Same.refl (H : Hp) : Same H H := fun _ _ h => h
theorem Same.trans {H H1 H2 : Hp} (a : Same H H1) (b : Same H1 H2) : Same H H2 := fun c o h => b c o (a c o h)
theorem Same.free {H H' : Hp} (e : Same H H') {l : Addr} (h : H' l = Option.none) : H l = Option.none := by
  cases q : H l with
  | none => rfl
  | some o =>
    rw [e l o q] at h
    cases h
theorem Same.seq {K : PySem.W.Frag} {H H' : Hp} {a : Addr} {xs : List V} (e : Same H H') (h : SqL K H a xs) : SqL K H' a xs := by
  rcases h with (h | ⟨o, h⟩) | h
  · exact .inl (.inl (e _ _ h))
  · exact .inl (.inr ⟨o, e _ _ h⟩)
  · exact .inr h

end L2


set_option maxHeartbeats 4000000
/-! more rules over the layer: great ints, is, tuples compared, lists unpacked, ranges by steps, list comprehensions -/
namespace L2
open PySem PySem.Spec PyProof.Rows

/-! ### great ints -/
def Sz (k : Nat) (x : Int) : Prop := x.natAbs < 2 ^ k
instance (k : Nat) (x : Int) : Decidable (Sz k x) := by unfold Sz; infer_instance
theorem Sz.mono {j k : Nat} {x : Int} (h : Sz j x) (hjk : j ≤ k) : Sz k x := Nat.lt_of_lt_of_le h (Nat.pow_le_pow_right (by decide) hjk)
theorem Sz.bits {k : Nat} {x : Int} (h : Sz k x) : Builtin.Int.intBits x ≤ k := by
  unfold Builtin.Int.intBits
  split
  · exact Nat.zero_le _
  · rename_i hx
    have hx' : x ≠ 0 := by simpa using hx
    have hn : x.natAbs ≠ 0 := by omega
    exact (Nat.log2_lt hn).mpr h
theorem Sz.log2 {k : Nat} {x : Int} (h : Sz k x) (hk : 0 < k) : x.natAbs.log2 < k := by
  by_cases hn : x.natAbs = 0
  · rw [hn]; simpa using hk
  · exact (Nat.log2_lt hn).mpr h
def CDivS (_i j : Int) : Prop := j ≠ 0 ∧ Sz 9000 j
section
variable {X : Cx}
theorem op_fdivS : OpR X (binaryOp .FloorDiv) (rI CDivS fun i j => .int (i.fdiv j)) := opI fun _ _ _ _ _ _ _ hc q => floordiv_int hc.1 q (.inl (PyProof.noPylong_of_log2 (hc.2.log2 (by decide))))
/-! ### is, is not of bools -/
/-! ### tuples of ints, == and != -/
theorem reads_tupI {h : Heap} {a : Addr} {vs : List Value} {ns : List Int} (hl : IsTup h a vs.toArray) (hi : IntsAre vs ns) : Reads h (.ref a) (.tuple (ns.map PyData.int)) [] := by
  obtain ⟨o, ho, hc, n, hd⟩ := hl
  exact Reads.tuple ho hc hd (by simpa using PySem.W.readsAll_of_ints hi)
/-! ### isinstance against a built-in class -/
theorem call_isinst : CallR X (.builtin "isinstance") (fun xs H Q => ∃ x T t b, xs = [x, .ty T] ∧ TyOf X.K H x t ∧ PySem.W.kitOne X.K t (.type T) = some b ∧ Q (.bl b) H) := by
  intro pins s σ H xs us Q I r h
  obtain ⟨x, T, t, b, rfl, ty, e, q⟩ := h
  obtain ⟨u, v, rfl, ru, rv⟩ := r.two
  cases rv
  exact isinst_ok I ru ty e fun tk => ⟨.bl b, H, I.tok tk, rfl, q⟩
end

/-! ### a list unpacked -/
section
variable {prog : Program} {w : World} {A : Around} {E : Value → Shared → Prop}
theorem drawn {it l : Addr} {all : Array Value} (ne : l ≠ it) (left : List Value) : ∀ (done : List Value) (s : Shared) (Q : List Value → Shared → Prop), all.toList = done ++ left → s.heap.IsListIter it l done.length → s.heap.IsList l all →
    (∀ h', h'.IsListIter it l all.size → h'.IsList l all → Heap.SameBut it s.heap h' → Q left { s with heap := h' }) → wpAny (model prog w) A (draw (.ref it) left.length) Q E s := by
  induction left with
  | nil =>
    intro done s Q e i d k
    have z : all.size = done.length := by rw [← Array.length_toList, e]; simp
    exact wpAny_pure (k s.heap (z ▸ i) d (.refl ..))
  | cons x r ih =>
    intro done s Q e i d k
    have here : all[done.length]? = some x := by rw [← Array.getElem?_toList, e]; simp
    refine wpAny_bind (wpAny_pyNext_list_item i d here fun h1 i1 r1 => wpAny_bind (wpAny_holding (ih (done ++ [x]) _ _ (by rw [e]; simp) (by simpa using i1) (d.extBut r1.extBut ne) fun h2 i2 d2 r2 => ?_)))
    exact wpAny_pure (k h2 i2 d2 (r1.trans r2))
theorem unpackItems_listL {s : Shared} {l : Addr} {all : Array Value} {Q : List Value → Shared → Prop} (hh : A.handled = none) (d : s.heap.IsList l all)
    (k : ∀ h', Heap.ExtBut s.heap.objs.size s.heap h' → Q all.toList { s with heap := h' }) : wpAny (model prog w) A (unpackItems (.ref l) all.size none) Q E s := by
  have ne : l ≠ s.heap.objs.size := let ⟨_, q, _⟩ := d; Nat.ne_of_lt (Heap.lt_size q)
  have len : all.size = all.toList.length := Array.length_toList.symm
  refine wpAny_bind (wpAny_bind (wpAny_specialOf d.typeIs slot_list_iter.lookup (wpAny_pure (wpAny_bind (wpAny_holding (wpAny_pyIter_list d (wpAny_bind (wpAny_holding ?_))))))))
  rw [len]
  refine drawn ne all.toList [] _ _ rfl ⟨_, Heap.get?_push_size _ rfl, rfl, rfl⟩ (d.push _) fun h1 i1 d1 r1 => ?_
  rw [if_neg (Nat.lt_irrefl _)]
  exact wpAny_bind (wpAny_holding (wpAny_pyNext_list_end hh i1 d1 (by simp) fun h2 r2 => wpAny_pure (k h2 fun b o n q => r2 b o n (r1.extBut b o n (Heap.get?_push_of_some _ q)))))
theorem assign_Tuple_list {s : Shared} {env : Env} {elts : List Expr} {x1} {pos : Pos} {l : Addr} {all : Array Value} {Q : Unit → Shared → Prop} (hh : A.handled = none) (d : s.heap.IsList l all)
    (hn : (assignEach elts env).length = all.size) (hst : (assignEach elts env).findIdx? (·.1) = none)
    (k : ∀ h', Heap.ExtBut s.heap.objs.size s.heap h' → wpAny (model prog w) A (assignInOrder ((assignEach elts env).map (·.2)) all.toList) Q E { s with heap := h' }) :
    wpAny (model prog w) A (assign (.Tuple elts x1 pos) env (.ref l)) Q E s := by
  rw [assign_Tuple]
  refine wpAny_bind (wpAny_standAt ?_)
  unfold unpack
  rw [hn, hst]
  exact wpAny_bind (wpAny_holding (unpackItems_listL hh d k))
end
section
variable {X : Cx} {pos : Pos}
def gLst (K : PySem.W.Frag) (n : Nat) (t : TGs) : TG := fun v σ H Q => ∃ a xs, v = .ref a ∧ SqL K H a xs ∧ xs.length = n ∧ t xs σ H Q
theorem pg_lst {es : List Expr} {k : Nat} {t : TGs} {n : Nat} (hc : X.calm = true) (h : PGs X es t)
    (hn : (assignEach es X.env).length = n := by rfl) (hst : (assignEach es X.env).findIdx? (·.1) = none := by rfl) : PG X (.Tuple es k pos) (gLst X.K n t) := by
  intro pins s σ H v u Q I r hw
  obtain ⟨a, xs, e1, hq, hl, hw⟩ := hw
  subst e1
  cases r
  obtain ⟨its, rv, ht, hz⟩ := I.list hq
  refine assign_Tuple_list (I.ok.hd hc) ht.isList (by simp [hn, ← hl, rv.length]) hst fun h' hx => ?_
  have I1 : Inv X pins σ H { s with heap := h' } := I.kept (t' := s.toks) fun b o e => hx b o (Nat.ne_of_lt (Heap.lt_size e)) e
  exact h pins _ σ H xs _ Q I1 (by simpa using rv) hw
end

/-! ### range by steps -/
section
variable {X : Cx} {tg : Expr}
end
end L2

set_option maxHeartbeats 4000000
/-! list comprehensions of one clause without a test -/
namespace L2
open PySem PySem.Spec PyProof.Rows

theorem forIn_fold {α β : Type} {f : α → β → Sem (ForInStep β)} {g : β → α → β} : ∀ (l : List α) (b : β), (∀ x ∈ l, ∀ b, f x b = pure (.yield (g b x))) → forIn l b f = pure (l.foldl g b)
  | [], b, _ => rfl
  | x :: r, b, h => by
    rw [List.forIn_cons, h x List.mem_cons_self b, pure_bind]
    exact forIn_fold r (g b x) fun y hy => h y (List.mem_cons_of_mem _ hy)

def cloF (cells : List (Str × Addr)) (cs : List (Str × Addr)) (x : Str × NameKind) : List (Str × Addr) := if x.2 == .free then (x.1, (cells.lookup x.1).getD 0) :: cs else cs
def clo (names : List (Str × NameKind)) (cells : List (Str × Addr)) : List (Str × Addr) := names.foldl (cloF cells) []
theorem closure_eq {scope : Scope} {env : Env} (h : ∀ x ∈ scope.names, x.2 = .free → ∃ c, env.cells.lookup x.1 = some c) : closureFor scope env = pure (clo scope.names env.cells) := by
  simp only [closureFor]
  unfold clo
  rw [forIn_fold (g := cloF env.cells) scope.names [] (fun x hx b => by
    obtain ⟨n, k⟩ := x
    unfold cloF
    by_cases hk : k = .free
    · subst hk
      obtain ⟨c, hc⟩ := h (n, .free) hx rfl
      have hc' : env.cells.lookup n = some c := hc
      simp [cellOf, hc']
    · have hb : (k == NameKind.free) = false := by simpa using hk
      simp [hb])]
  rfl
theorem lookup_cons_eq {x n : Str} {c : Addr} {l : List (Str × Addr)} : List.lookup x ((n, c) :: l) = if x = n then some c else List.lookup x l := by
  by_cases h : x = n
  · subst h
    rw [if_pos rfl, List.lookup_cons_self]
  · rw [if_neg h, List.lookup_cons]
    have : (x == n) = false := by simpa using h
    rw [this]
theorem clo_sub {cells : List (Str × Addr)} : ∀ (names : List (Str × NameKind)) (cs : List (Str × Addr)), (∀ x ∈ names, x.2 = .free → ∃ c, cells.lookup x.1 = some c) → (∀ x c, cs.lookup x = some c → cells.lookup x = some c) →
    ∀ x c, (names.foldl (cloF cells) cs).lookup x = some c → cells.lookup x = some c
  | [], cs, _, h0 => h0
  | (n, k) :: r, cs, h, h0 => by
    refine clo_sub r _ (fun y hy => h y (List.mem_cons_of_mem _ hy)) fun x c e => ?_
    unfold cloF at e
    by_cases hk : k = .free
    · subst hk
      obtain ⟨c', hc'⟩ := h (n, .free) List.mem_cons_self rfl
      simp only [beq_self_eq_true, if_true] at e
      rw [lookup_cons_eq] at e
      have hc' : cells.lookup n = some c' := hc'
      by_cases hx : x = n
      · subst hx
        rw [if_pos rfl, hc'] at e
        rw [hc']
        exact e
      · rw [if_neg hx] at e
        exact h0 x c e
    · have hb : (k == NameKind.free) = false := by simpa using hk
      simp only [hb, Bool.false_eq_true, if_false] at e
      exact h0 x c e
theorem clo_some {cells : List (Str × Addr)} : ∀ (names : List (Str × NameKind)) (cs : List (Str × Addr)) (x : Str), ((x, NameKind.free) ∈ names ∨ ∃ c, cs.lookup x = some c) → ∃ c, (names.foldl (cloF cells) cs).lookup x = some c
  | [], cs, x, h => by
    rcases h with h | h
    · cases h
    · exact h
  | (n, k) :: r, cs, x, h => by
    refine clo_some r _ x ?_
    unfold cloF
    by_cases hk : k = .free
    · subst hk
      simp only [beq_self_eq_true, if_true]
      rw [lookup_cons_eq]
      by_cases hx : x = n
      · exact .inr ⟨_, if_pos hx⟩
      · rw [if_neg hx]
        rcases h with h | h
        · rcases List.mem_cons.mp h with h | h
          · exact absurd (congrArg Prod.fst h) hx
          · exact .inl h
        · exact .inr h
    · have hb : (k == NameKind.free) = false := by simpa using hk
      simp only [hb, Bool.false_eq_true, if_false]
      rcases h with h | h
      · rcases List.mem_cons.mp h with h | h
        · exact absurd (congrArg Prod.snd h).symm hk
        · exact .inl h
      · exact .inr h

structure LcOk (N : List Str) (osc sc : Scope) (Nc : List Str) (mp : List (Option Nat)) : Prop where
  kind : sc.kind = .function
  nocell : ∀ y ∈ sc.names, y.2 ≠ .cell
  names : ∀ y ∈ sc.names, y.2 = .local → sc.names.lookup y.1 = some .local
  free : ∀ y ∈ sc.names, y.2 = .free → osc.names.lookup y.1 = some .cell ∨ osc.names.lookup y.1 = some .free
  len : mp.length = Nc.length
  map : ∀ (i j : Nat), mp[i]? = some (some j) → ∃ x, Nc[i]? = some x ∧ N[j]? = some x ∧ sc.names.lookup x = some .free
def lcChk (N : List Str) (osc sc : Scope) (Nc : List Str) (mp : List (Option Nat)) : Bool :=
  decide (sc.kind = .function) && sc.names.all (fun y => !decide (y.2 = .cell) && (!decide (y.2 = .local) || decide (sc.names.lookup y.1 = some .local)) &&
    (!decide (y.2 = .free) || decide (osc.names.lookup y.1 = some .cell) || decide (osc.names.lookup y.1 = some .free))) &&
  decide (mp.length = Nc.length) && (List.range mp.length).all fun i => match mp[i]? with
    | some (some j) => match Nc[i]? with
      | some x => decide (N[j]? = some x) && decide (sc.names.lookup x = some .free)
      | none => false
    | _ => true
theorem LcOk.of {N : List Str} {osc sc : Scope} {Nc : List Str} {mp : List (Option Nat)} (h : lcChk N osc sc Nc mp = true) : LcOk N osc sc Nc mp := by
  unfold lcChk at h
  simp only [Bool.and_eq_true, decide_eq_true_eq, List.all_eq_true, Bool.or_eq_true, Bool.not_eq_true', decide_eq_false_iff_not] at h
  obtain ⟨⟨⟨h1, h2⟩, h3⟩, h4⟩ := h
  refine ⟨h1, fun y hy => (h2 y hy).1.1, fun y hy e => ?_, fun y hy e => ?_, h3, fun i j e => ?_⟩
  · rcases (h2 y hy).1.2 with q | q
    · exact absurd e q
    · exact q
  · rcases (h2 y hy).2 with (q | q) | q
    · exact absurd e q
    · exact .inl q
    · exact .inr q
  · have hi : i < mp.length := (List.getElem?_eq_some_iff.mp e).1
    have q := h4 i (List.mem_range.mpr hi)
    rw [e] at q
    cases hx : Nc[i]? with
    | none => rw [hx] at q; simp at q
    | some x =>
      rw [hx] at q
      simp only [Bool.and_eq_true, decide_eq_true_eq] at q
      exact ⟨x, rfl, q.1, q.2⟩
theorem lookup_map_free {f : Str × NameKind → Str × NameKind} (h1 : ∀ p, (f p).1 = p.1) (h2 : ∀ p, p.2 = .free → (f p).2 = .cell ∨ (f p).2 = .free) : ∀ {names : List (Str × NameKind)} {x : Str}, names.lookup x = some .free → (names.map f).lookup x = some .cell ∨ (names.map f).lookup x = some .free
  | [], _, h => by simp at h
  | (n, k) :: r, x, h => by
    have ih := @lookup_map_free f h1 h2 r x
    rw [List.map_cons]
    have q1 := h1 (n, k)
    have q2 := h2 (n, k)
    generalize f (n, k) = z at q1 q2
    obtain ⟨n', k'⟩ := z
    have q1' : n' = n := q1
    subst q1'
    cases hx : x == n' with
    | true =>
      rw [List.lookup_cons, hx] at h
      have hk : k = .free := by simpa using h
      rw [List.lookup_cons, hx]
      rcases q2 hk with e | e
      · have e' : k' = .cell := e
        subst e'
        exact .inl rfl
      · have e' : k' = .free := e
        subst e'
        exact .inr rfl
    | false =>
      rw [List.lookup_cons, hx] at h
      rw [List.lookup_cons, hx]
      exact ih h
theorem lookup_relabel_free {env : Env} {names : List (Str × NameKind)} {x : Str} (h : names.lookup x = some .free) :
    (names.map fun (n, k) => if (k == NameKind.free && env.scope.kind == .function && env.kindOf n == some .cell) then (n, NameKind.cell) else (n, k)).lookup x = some .cell ∨
    (names.map fun (n, k) => if (k == NameKind.free && env.scope.kind == .function && env.kindOf n == some .cell) then (n, NameKind.cell) else (n, k)).lookup x = some .free := by
  refine lookup_map_free (fun p => ?_) (fun p hp => ?_) h
  · obtain ⟨n, k⟩ := p
    dsimp only
    split <;> rfl
  · obtain ⟨n, k⟩ := p
    dsimp only
    split
    · exact .inl rfl
    · exact .inr hp
theorem relabel_has {env : Env} {names : List (Str × NameKind)} {x : Str} {k' : NameKind} (hc : ∀ y ∈ names, y.2 ≠ .cell) (hk : k' = .cell ∨ k' = .free)
    (h : (names.map fun (n, k) => if (k == NameKind.free && env.scope.kind == .function && env.kindOf n == some .cell) then (n, NameKind.cell) else (n, k)).lookup x = some k') : (x, NameKind.free) ∈ names := by
  have m := PySem.mem_of_lookup h
  obtain ⟨⟨n, k⟩, hm, e⟩ := List.mem_map.mp m
  dsimp only at e
  by_cases hf : k = .free
  · subst hf
    have e1 : n = x := by
      by_cases hc' : (NameKind.free == NameKind.free && env.scope.kind == .function && env.kindOf n == some .cell) = true
      · rw [if_pos hc'] at e
        exact congrArg Prod.fst e
      · rw [if_neg hc'] at e
        exact congrArg Prod.fst e
    exact e1 ▸ hm
  · have hb : (k == NameKind.free) = false := by simpa using hf
    simp only [hb, Bool.false_and, Bool.false_eq_true, if_false] at e
    cases e
    rcases hk with z | z
    · exact absurd z (hc _ hm)
    · exact absurd z hf

def cxLc (X : Cx) (scope : Scope) (Nc : List Str) (ex : List Addr) (pins : List (Addr × Obj)) (s : Shared) (H : Hp) : Cx where
  prog := X.prog
  w := X.w
  K := X.K
  mg := X.mg
  base := X.base
  A := X.A
  N := Nc
  s₀ := s
  H₀ := H
  env := compEnvC scope (clo scope.names X.env.cells) s.heap.objs.size X.env
  outer := X.stack
  stack := X.stack
  ex := ex
  fn := fun _ => false
  calm := X.calm
  pn := X.pn ++ pins
  xe := fun _ _ => False
def sub (mp : List (Option Nat)) (σ : St) : St := mp.map fun o => match o with | some j => (σ[j]?).join | none => none
theorem sub_get {mp : List (Option Nat)} {σ : St} {i : Nat} {v : V} (h : (sub mp σ)[i]? = some (some v)) : ∃ j, mp[i]? = some (some j) ∧ σ[j]? = some (some v) := by
  unfold sub at h
  rw [List.getElem?_map] at h
  cases e : mp[i]? with
  | none => rw [e] at h; cases h
  | some o =>
    rw [e] at h
    cases o with
    | none => cases h
    | some j =>
      refine ⟨j, rfl, ?_⟩
      have h' : (σ[j]?).join = some v := Option.some.inj h
      cases q : σ[j]? with
      | none => rw [q] at h'; cases h'
      | some z => rw [q] at h'; exact congrArg some h'

section
variable {X : Cx} {pins : List (Addr × Obj)} {σ : St} {H : Hp} {s : Shared} {scope : Scope} {Nc : List Str} {mp : List (Option Nat)} {fp : List Addr}
theorem lc_cells (I : Inv X pins σ H s) (S : LcOk X.N X.env.scope scope Nc mp) : ∀ x ∈ scope.names, x.2 = .free → ∃ c, X.env.cells.lookup x.1 = some c := fun x hx e =>
  I.ok.has x.1 (S.free x hx e)
theorem lc_sub (I : Inv X pins σ H s) (S : LcOk X.N X.env.scope scope Nc mp) {x : Str} {c : Addr} (h : (clo scope.names X.env.cells).lookup x = some c) : X.env.cells.lookup x = some c :=
  clo_sub scope.names [] (lc_cells I S) (fun _ _ e => by cases e) x c h
theorem lc_ok (I : Inv X pins σ H s) (S : LcOk X.N X.env.scope scope Nc mp) (hf : ∀ b ∈ fp, FpOk X pins H b) (hl : ∀ b ∈ fp, b < s.heap.objs.size) : (cxLc X scope Nc fp pins s H).Ok where
  mod := I.ok.mod
  kind := S.kind
  glob := I.ok.glob
  blt := I.ok.blt
  above := Nat.le_refl _
  inj := fun x y c e1 e2 => I.ok.inj x y c (lc_sub I S e1) (lc_sub I S e2)
  has := fun x h => by
    have hm : (x, NameKind.free) ∈ scope.names := by
      rcases h with h | h
      · exact relabel_has S.nocell (.inl rfl) h
      · exact relabel_has S.nocell (.inr rfl) h
    exact clo_some scope.names [] x (.inl hm)
  cab := fun x c h _ => by cases h
  hd := I.ok.hd
  frames := I.ok.frames
  stk := .inl rfl
  exf := fun b hb => ⟨Nat.ne_of_lt (hl b hb), fun x c e => (hf b hb).2.2.2.2.1 x c (lc_sub I S e)⟩
  bs := I.bs
  bsz := Nat.le_trans I.ok.bsz I.sz
  noex := fun b o e hb => by
    rcases (hf b hb).2.2.2.1 with z | z
    · exact I.ok.noex b o e z
    · exact absurd (Nat.lt_of_lt_of_le (Heap.lt_size e) (Nat.le_trans I.ok.bsz z)) (Nat.lt_irrefl _)
  exfs := fun b hb z => by
    rcases List.mem_cons.mp (I.stkSub b z) with e | e
    · exact (hf b hb).2.1 e
    · exact (hf b hb).2.2.1 e
  funs := I.stack
  frf := I.stkFree
theorem lc_start (I : Inv X pins σ H s) (S : LcOk X.N X.env.scope scope Nc mp) (hf : ∀ b ∈ fp, FpOk X pins H b) (hl : ∀ b ∈ fp, b < s.heap.objs.size) {h₁ : Heap} {m : Str → Option Value} {tk : Nat}
    (hn : h₁.Ns s.heap.objs.size m) (k : ∀ b o, s.heap.get? b = some o → h₁.get? b = some o) : Inv (cxLc X scope Nc fp pins s H) [] (sub mp σ) H { s with heap := h₁, toks := tk } := by
  refine ⟨lc_ok I S hf hl, rfl, I.bare, Un.kept k, ⟨m, hn, fun i x v e1 e2 _ => ?_⟩, fun x c e => ?_, I.hok.fresh (Nat.le_refl _), fun x c e => I.freeC x c (lc_sub I S e), fun p hp => ?_, I.hok.kept k, ?_⟩
  · obtain ⟨j, hj, hv⟩ := sub_get e2
    obtain ⟨y, y1, y2, y3⟩ := S.map i j hj
    have e1' : Nc[i]? = some x := e1
    rw [e1'] at y1
    cases y1
    have hm := PySem.mem_of_lookup y3
    have vis : Vis X.env.scope x := .inr (S.free _ hm rfl)
    obtain ⟨mo, _, hloc⟩ := I.loc
    obtain ⟨u, ru, lk⟩ := hloc j x v y2 hv vis
    refine ⟨u, ru, .inr ⟨lookup_relabel_free y3, ?_⟩⟩
    obtain ⟨c, hc⟩ := clo_some (cells := X.env.cells) scope.names [] x (.inl hm)
    have hc' := lc_sub I S hc
    rcases lk with ⟨z, _⟩ | ⟨_, c', z, q⟩
    · rcases S.free _ hm rfl with z' | z' <;> (have z'' : X.env.scope.names.lookup x = some .local := z; rw [z''] at z'; cases z')
    · rw [hc'] at z
      cases z
      obtain ⟨o, ho, hd⟩ := q
      exact ⟨c, hc, o, k c o ho, hd⟩
  · obtain ⟨v, o, ho, hd⟩ := I.cell x c (lc_sub I S e)
    exact ⟨v, o, k c o ho, hd⟩
  · have hp' : p ∈ X.pn ++ pins := by
      have : p ∈ (X.pn ++ pins) ++ [] := hp
      simpa using this
    obtain ⟨e, n, ne, nf, d⟩ := I.pin p hp'
    refine ⟨k _ _ e, n, Nat.ne_of_lt (Heap.lt_size e), fun z => ?_, d⟩
    rcases List.mem_cons.mp (I.stkSub p.1 z) with q | q
    · exact ne q
    · exact nf q
  · show (sub mp σ).length = Nc.length
    unfold sub
    rw [List.length_map]
    exact S.len
theorem lc_end (I : Inv X pins σ H s) (hf : ∀ b ∈ fp, FpOk X pins H b) {σ' : St} {H' : Hp} {s' : Shared} {pl : List (Addr × Obj)} (J : Inv (cxLc X scope Nc fp pins s H) pl σ' H' s') : Inv X pins σ H' s' :=
  I.call' J.os J.base J.hok J.bare fun b hb => ⟨(hf b hb).2.2.2.1, (hf b hb).2.1, (hf b hb).2.2.2.2.1, (hf b hb).2.2.2.2.2⟩
theorem Inv.turnedNew (I : Inv X pins σ H s) {C : Addr} {h' : Heap} {t' : Nat} (k : ∀ b o, b ≠ C → s.heap.get? b = some o → h'.get? b = some o) (hn : H C = none) (h1 : X.s₀.heap.objs.size ≤ C)
    (hL : C ≠ X.env.locals) (hc : ∀ x c, X.env.cells.lookup x = some c → c ≠ C) (hp : ∀ p ∈ X.pn ++ pins, p.1 ≠ C) : Inv X pins σ H { s with heap := h', toks := t' } :=
  I.turned k hn hL (.inr h1) hc hp
end

section
variable {M : Model} {A : Around} {E : Value → Shared → Prop}
abbrev Calm : Value → Shared → Prop := fun _ _ => False
theorem thenC {α β : Type} {m : Sem α} {f : α → Sem β} {P : α → Shared → Prop} {Q : β → Shared → Prop} {s : Shared} (h : wpAny M A m P Calm s) (k : ∀ x s', P x s' → wpAny M A (f x) Q E s') : wpAny M A (m >>= f) Q E s :=
  wpAny_bind (wpAny_mono h k fun _ _ z => z.elim)
end
theorem compLoop_calm {prog : Program} {w : World} {A : Around} {R : Result → Shared → Prop} {s : Shared} {e t i : Expr} {sc : Scope} {pos : Pos} {it acc : Value} {env : Env} (J : Nat → Shared → Prop)
    (turn : ∀ n s, J n s → wpAny (model prog w) A (pyNext it) (fun r s1 => (r = none → R (.ok .next) s1) ∧ ∀ v, r = some v →
      wpAny (model prog w) A (letOwnedTupleGo t it v) (fun _ s2 => wpAny (model prog w) A (assign t env v) (fun _ s3 => wpAny (model prog w) A (eval e env) (fun x s4 =>
        wpAny (model prog w) A (call (.builtin "list.append") [acc, x]) (fun _ s5 => ∃ m, m < n ∧ J m s5) Calm s4) Calm s3) Calm s2) Calm s1) Calm s)
    (n : Nat) (h : J n s) : codeAny (model prog w) A (.compLoop (.ListComp e [⟨t, i, [], 0⟩] sc pos) 0 it acc env) R s := by
  have eq := compTurn_list1 e t i sc pos it acc env
  refine codeAny_loop rfl J (fun n s j => wpAny_noted (m := compTurn (.ListComp e [⟨t, i, [], 0⟩] sc pos) 0 it acc env) ?_) n h
  rw [eq]
  refine wpAny_bind (wpAny_standAt (thenC (turn n s j) fun r s1 q => ?_))
  match r, q with
  | none, q => exact wpAny_pure (q.1 rfl)
  | some v, q => exact thenC (q.2 v rfl) fun _ s2 q2 => thenC q2 fun _ s3 q3 => wpAny_bind (thenC q3 fun x s4 q4 => thenC q4 fun _ s5 q5 => wpAny_pure (wpAny_pure ⟨rfl, q5⟩))

def LcW (J : It) (g : TG) (te : TE) (σ : St) (H : Hp) (acc : Addr) (Q : VK) : Prop := ∃ W : Nat → Nat → List V → St → Hp → Prop, (∃ m, W 0 m [] σ (upd H acc (.lst []))) ∧
  ∀ i m ys σ2 H2, W i m ys σ2 H2 → (J.stop i H2 ∧ Q (.ref acc) H2) ∨ (J.go i H2 ∧ ∀ x H3, J.yld i H2 x H3 → g x σ2 H3 fun σ4 H4 => te σ4 H4 fun y H5 =>
    H5 acc = some (.lst ys) ∧ ys.length < sizeLine ∧ ∃ m', m' < m ∧ W (i + 1) m' (ys ++ [y]) σ4 (upd H5 acc (.lst (ys ++ [y]))))
def tLc (mp : List (Option Nat)) (wi : TI) (g : TG) (te : TE) : TE := fun σ H Q => wi σ H fun J H1 => ∀ acc, H1 acc = none → LcW J g te (sub mp σ) H1 acc Q

section
variable {X : Cx} {elt tg iter : Expr} {scope : Scope} {pos : Pos} {wi : TI} {g : TG} {te : TE} {Nc : List Str} {mp : List (Option Nat)}
abbrev withList (s : Shared) : Shared := { s with heap := s.heap.push { cls := .type "list", dict := none, data := .seq ([] : List Value).toArray } }
theorem lc_run (hc : X.calm = true) (S : LcOk X.N X.env.scope scope Nc mp) (hg : ∀ ex pins s H, PG (cxLc X scope Nc ex pins s H) tg g) (he : ∀ ex pins s H, PE (cxLc X scope Nc ex pins s H) elt te)
    {pins : List (Addr × Obj)} {σ : St} {H2 : Hp} {s2 : Shared} {E : Value → Shared → Prop} {it : Addr} {fp : List Addr} {tn : Nat → Heap → Prop} {J : It} {Q : VK} {RR : Value → Addr → Result → Shared → Prop}
    (I2 : Inv X pins σ H2 s2) (T : Turn X.prog X.w X.K tg J fp it tn) (st2 : tn 0 s2.heap) (f2 : ∀ b ∈ fp, FpOk X pins H2 b)
    (q : ∀ acc, H2 acc = none → LcW J g te (sub mp σ) H2 acc Q)
    (fin : ∀ acc C H' s' m', Q (.ref acc) H' → Inv X pins σ H' s' → s'.heap.Ns C m' → H' C = none → X.s₀.heap.objs.size ≤ C → C ≠ X.env.locals → (∀ x c, X.env.cells.lookup x = some c → c ≠ C) → (∀ p ∈ X.pn ++ pins, p.1 ≠ C) → RR (.ref acc) C (.ok .next) s') :
    wpAny (model X.prog X.w) X.A (newList []) (fun acc s₃ => wpAny (model X.prog X.w) X.A (newFunctionEnv scope X.env.globals (clo scope.names X.env.cells) [] X.env.qual none .none (some X.env)) (fun cenv s₄ =>
      codeAny (model X.prog X.w) X.A (.compStart (.ListComp elt [⟨tg, iter, [], 0⟩] scope pos) 0 (.ref it) acc { cenv with scope := relabel scope X.env }) (RR acc cenv.locals) s₄) E s₃) E s2 := by
  refine wpAny_newObj_type (wpAny_newFunctionEnv S.nocell (by intro y hy; simp at hy) (fun h₁ hns₁ hsb₁ => ?_) S.kind)
  dsimp only at hns₁ hsb₁ ⊢
  have I3 := I2.lnew (its := []) (ys := []) (t' := s2.toks) .nil (Nat.zero_le _)
  have hacc : H2 s2.heap.objs.size = none := I2.fresh
  obtain ⟨W, ⟨m0, w0⟩, turn⟩ := q s2.heap.objs.size hacc
  have hpush : (s2.heap.push { cls := .type "list", dict := none, data := .seq ([] : List Value).toArray }).objs.size = s2.heap.objs.size + 1 := Heap.size_push ..
  have hlt : ∀ b ∈ fp, b < s2.heap.objs.size := fun b hb => by
    obtain ⟨o, e, _⟩ := T.obj _ _ st2 b hb
    exact Heap.lt_size e
  have f3 : ∀ b ∈ fp, FpOk X pins (upd H2 s2.heap.objs.size (.lst [])) b := fun b hb => ⟨by rw [upd_ne (Nat.ne_of_lt (hlt b hb))]; exact (f2 b hb).1, (f2 b hb).2⟩
  have I3' : Inv X pins σ (upd H2 s2.heap.objs.size (.lst [])) (withList s2) := I3
  have hsz : (withList s2).heap.objs.size = s2.heap.objs.size + 1 := hpush
  have hlt3 : ∀ b ∈ fp, b < (withList s2).heap.objs.size := fun b hb => by rw [hsz]; exact Nat.lt_succ_of_lt (hlt b hb)
  have k3 : ∀ b o, (withList s2).heap.get? b = some o → h₁.get? b = some o := fun b o e => hsb₁.extBut b o (Nat.ne_of_lt (Heap.lt_size e)) (Heap.get?_push_of_some _ e)
  have Ic := lc_start (tk := (withList s2).toks) I3' S f3 hlt3 hns₁ k3
  have st3 : tn 0 h₁ := T.keep _ _ _ st2 fun b hb o e => k3 b o (Heap.get?_push_of_some _ e)
  -- what the block's frame is to the def
  have cC : X.s₀.heap.objs.size ≤ (withList s2).heap.objs.size := I3'.sz
  have cL : (withList s2).heap.objs.size ≠ X.env.locals := Nat.ne_of_gt I3'.lt
  have cc : ∀ x c, X.env.cells.lookup x = some c → c ≠ (withList s2).heap.objs.size := fun x c e => by
    obtain ⟨v, o, ho, _⟩ := I3'.cell x c e
    exact Nat.ne_of_lt (Heap.lt_size ho)
  have cp : ∀ p ∈ X.pn ++ pins, p.1 ≠ (withList s2).heap.objs.size := fun p hp => Nat.ne_of_lt (Heap.lt_size (I3'.pin p hp).1)
  have stat : ∀ {H' : Hp}, (∀ b ∈ fp, H' b = none) → ∀ b ∈ fp, FpOk (cxLc X scope Nc fp pins (withList s2) (upd H2 s2.heap.objs.size (.lst []))) [] H' b := fun hn b hb =>
    ⟨hn b hb, Nat.ne_of_lt (hlt3 b hb), fun z => by
      rcases List.mem_cons.mp (I3'.stkSub b z) with e | e
      · exact (f3 b hb).2.1 e
      · exact (f3 b hb).2.2.1 e, .inl hb, fun x c e => (f3 b hb).2.2.2.2.1 x c (lc_sub I3' S e), fun p hp => (f3 b hb).2.2.2.2.2 p (by
        have : p ∈ (X.pn ++ pins) ++ [] := hp
        simpa using this)⟩
  have loop : ∀ s4 : Shared, s4 = { (withList s2) with heap := h₁, toks := (withList s2).toks } →
      codeAny (model X.prog X.w) X.A (.compLoop (.ListComp elt [⟨tg, iter, [], 0⟩] scope pos) 0 (.ref it) (.ref s2.heap.objs.size) (cxLc X scope Nc fp pins (withList s2) (upd H2 s2.heap.objs.size (.lst []))).env)
        (RR (.ref s2.heap.objs.size) (withList s2).heap.objs.size) s4 := by
    rintro s4 rfl
    refine compLoop_calm (fun n s' => ∃ i ys σ' H', Inv (cxLc X scope Nc fp pins (withList s2) (upd H2 s2.heap.objs.size (.lst []))) [] σ' H' s' ∧ tn i s'.heap ∧ (∀ b ∈ fp, H' b = none) ∧ W i n ys σ' H') ?_ m0
      ⟨0, [], sub mp σ, _, Ic, st3, fun b hb => (f3 b hb).1, w0⟩
    rintro n s5 ⟨i, ys, σ5, H5, I5, st5, fr5, w5⟩
    rcases turn i n ys σ5 H5 w5 with ⟨stop, qn⟩ | ⟨go, step⟩
    · refine wpAny_mono (T.done (cxLc X scope Nc fp pins (withList s2) (upd H2 s2.heap.objs.size (.lst []))) rfl rfl rfl hc i [] s5 σ5 H5 (fun _ _ => False) I5 (stat fr5) st5 stop) (fun r s6 ⟨hr, I6⟩ => ?_) fun _ _ f => f.elim
      subst hr
      obtain ⟨m6, hn6, _⟩ := I6.loc
      refine ⟨fun _ => ?_, fun _ z => nomatch z⟩
      exact fin _ _ H5 s6 m6 qn (lc_end I3' f3 I6) hn6 I6.free cC cL cc cp
    · refine wpAny_mono (T.item (cxLc X scope Nc fp pins (withList s2) (upd H2 s2.heap.objs.size (.lst []))) rfl rfl rfl hc i [] s5 σ5 H5 (fun _ _ => False) I5 (stat fr5) st5 go) (fun r s6 ⟨u, hr, h6⟩ => ?_) fun _ _ f => f.elim
      subst hr
      refine ⟨(fun z => by cases z), ?_⟩
      rintro _ ⟨⟩
      refine wpAny_mono h6 (fun _ s7 ⟨x, H7, I7, r7, y7, st7, fr7⟩ => ?_) fun _ _ f => f.elim
      have I7' := I7.pinned (stat fr7) (T.obj _ _ st7)
      refine wpAny_mono (hg _ _ _ _ _ s7 σ5 H7 x u _ I7' r7 (step x H7 y7)) (fun _ s8 ⟨σ8, H8, I8, q8⟩ => ?_) fun _ _ f => f.elim
      refine wpAny_mono (he _ _ _ _ _ s8 σ8 H8 _ I8 q8) (fun v s9 ⟨y, H9, I9, r9, a9, l9, m', hm', w9⟩ => ?_) fun _ _ f => f.elim
      refine wpAny_mono (mt_append (X := cxLc X scope Nc fp pins (withList s2) (upd H2 s2.heap.objs.size (.lst []))) _ s9 σ8 H9 (.ref s2.heap.objs.size) [y] (.ref s2.heap.objs.size) [v] (fun z Hz => z = .non ∧ Hz = upd H9 s2.heap.objs.size (.lst (ys ++ [y]))) I9 rfl (.cons r9 .nil) ⟨_, ys, y, rfl, rfl, a9, l9, rfl, rfl⟩) (fun v10 s10 ⟨z, H10, I10, _, _, e10⟩ => ?_) fun _ _ f => f.elim
      subst e10
      refine ⟨m', hm', i + 1, ys ++ [y], σ8, _, I10.unpinned, T.keep _ _ _ st7 fun b hb o e => (I10.pin (b, o) (List.mem_append_right _ (List.mem_append_right _ (mem_pinsAt hb e)))).1, fun b hb => ?_, w9⟩
      obtain ⟨o, e, d⟩ := T.obj _ _ st7 b hb
      exact (I10.pin (b, o) (List.mem_append_right _ (List.mem_append_right _ (mem_pinsAt hb e)))).2.1
  exact codeAny_compStart_list (loop _ rfl) (T.self _ 0 _ _ _ st3 (loop _ rfl))
theorem pe_lc (hc : X.calm = true) (S : LcOk X.N X.env.scope scope Nc mp) (hi : PI X tg iter wi) (hg : ∀ ex pins s H, PG (cxLc X scope Nc ex pins s H) tg g) (he : ∀ ex pins s H, PE (cxLc X scope Nc ex pins s H) elt te)
    (hf : ∀ x, foldedSetIterable iter X.env x = pure x := by intro _; rfl) : PE X (.ListComp elt [⟨tg, iter, [], 0⟩] scope pos) (tLc mp wi g te) := by
  intro pins s σ H Q I h
  rw [eval_ListComp]
  refine wpAny_comprehension_free (use := none) rfl hf (closure_eq (lc_cells I S)) S.kind S.names (thn (hi pins s σ H _ I h) fun v s1 h1 => thn h1 fun itv s2 h2 => ?_)
  obtain ⟨it, fp, tn, J, H2, e, I2, T, st2, f2, q⟩ := h2
  subst e
  refine lc_run (RR := fun acc C => compPost (model X.prog X.w) X.A X.xe none (EP X pins σ Q) acc C) hc S hg he I2 T st2 f2 q ?_
  intro acc C H' s' m' qq I' hn hC c1 c2 c3 c4
  refine ⟨m', hn, fun h' hs => ⟨.ref acc, H', ?_, rfl, qq⟩⟩
  exact I'.turnedNew (t' := s'.toks) (fun b o hb e => hs.extBut b o hb e) hC c1 c2 c3 c4
theorem ps_setLc {i : Nat} {x : Str} {pos' spos : Pos} (hc : X.calm = true) (hN : X.N.Nodup) (hi' : X.N[i]? = some x) (hx : X.env.scope.names.lookup x = some .local) (S : LcOk X.N X.env.scope scope Nc mp) (hi : PI X tg iter wi)
    (hg : ∀ ex pins s H, PG (cxLc X scope Nc ex pins s H) tg g) (he : ∀ ex pins s H, PE (cxLc X scope Nc ex pins s H) elt te)
    (hsw : swapsWith (.ListComp elt [⟨tg, iter, [], 0⟩] scope pos) (some (.Name x pos')) spos.line X.env = pure true)
    (hf : ∀ x, foldedSetIterable iter X.env x = pure x := by intro _; rfl) : PS X (.Assign [.Name x pos'] (.ListComp elt [⟨tg, iter, [], 0⟩] scope pos) spos) (tAsg (tLc mp wi g te) (gName i)) := by
  intro pins s σ H D I h
  rw [exec_Assign_Name_used _ _ _ _ hsw]
  refine wpAny_bind (wpAny_standAt (wpAny_bind ?_))
  show wpAny _ X.A (do let _ ← comprehension (.ListComp elt [⟨tg, iter, [], 0⟩] scope pos) scope X.env _ (newList []) false (eval iter X.env) (some (assign (.Name x pos') X.env))) _ _ s
  refine wpAny_bind (wpAny_mono (wpAny_comprehension_free (use := some (assign (.Name x pos') X.env)) (Q := fun _ s' => SP X pins D .next s') rfl hf (closure_eq (lc_cells I S)) S.kind S.names
    (thn (hi pins s σ H _ I h) fun v s1 h1 => thn h1 fun itv s2 h2 => ?_)) (fun _ s' hq => wpAny_pure (wpAny_pure hq)) fun _ _ e => e)
  obtain ⟨it, fp, tn, J, H2, e, I2, T, st2, f2, q⟩ := h2
  subst e
  refine lc_run (Q := fun x H1 => gName i x σ H1 D.nx) (RR := fun acc C => compPost (model X.prog X.w) X.A X.xe (some (assign (.Name x pos') X.env)) (fun _ s' => SP X pins D .next s') acc C) hc S hg he I2 T st2 f2 q ?_
  intro acc C H' s' m' qq I' hn hC c1 c2 c3 c4
  show wpAny _ X.A (assign (.Name x pos') X.env (.ref acc)) _ _ _
  refine wpAny_assign_Name (store_ok2 (v := .ref acc) I' hN hi' (.inl hx) rfl (fun s5 I5 ⟨a, hs5, ha⟩ => ?_) (.inr hx))
  have hCa : C ≠ a := by
    rcases ha with z | z
    · rw [z]; exact c2
    · exact Ne.symm (c3 x a z)
  refine ⟨m', hn.sameBut hs5 hCa, fun h' hs => ⟨σ.set i (some (.ref acc)), H', ?_, qq⟩⟩
  exact I5.turnedNew (t' := s5.toks) (fun b o hb e => hs.extBut b o hb e) hC c1 c2 c3 c4
end

/-! ### the forms one uses: the block's own name first -/
theorem lc_by {J : It} {n : Nat} {val : Nat → V} {te : TE} {fr : St} {H1 : Hp} {acc : Addr} {Q : VK} (Pv : Nat → List V → Hp → Prop) (hn : n ≤ sizeLine) (h0 : Pv 0 [] (upd H1 acc (.lst [])))
    (hgo : ∀ i ys H, i < n → Pv i ys H → J.go i H ∧ ∀ x H', J.yld i H x H' → H' = H ∧ x = val i) (hst : ∀ ys H, Pv n ys H → J.stop n H)
    (hs : ∀ i ys H (N : V → Hp → Prop), i < n → ys.length = i → Pv i ys H → (∀ y H5, H5 acc = some (.lst ys) → Pv (i + 1) (ys ++ [y]) (upd H5 acc (.lst (ys ++ [y]))) → N y H5) → te (some (val i) :: fr) H N)
    (hd : ∀ ys H, ys.length = n → Pv n ys H → Q (.ref acc) H) :
    LcW (J) (gName 0) te (none :: fr) H1 acc Q := by
  refine ⟨fun i m ys σ2 H2 => m = n - i ∧ i ≤ n ∧ ys.length = i ∧ (∃ v, σ2 = v :: fr) ∧ Pv i ys H2, ⟨n, by simp, Nat.zero_le _, rfl, ⟨_, rfl⟩, h0⟩, ?_⟩
  rintro i m ys σ2 H2 ⟨rfl, hi, hl, ⟨v, rfl⟩, p⟩
  by_cases hlt : i < n
  · obtain ⟨go, yl⟩ := hgo i ys H2 hlt p
    refine .inr ⟨go, fun x H3 y3 => ?_⟩
    obtain ⟨e1, e2⟩ := yl x H3 y3
    subst e1 e2
    show te ((v :: fr).set 0 (some (val i))) H3 _
    rw [List.set_cons_zero]
    refine hs i ys H3 _ hlt hl p fun y H5 a5 p5 => ⟨a5, by omega, n - (i + 1), by omega, rfl, hlt, by rw [List.length_append, hl]; rfl, ⟨_, rfl⟩, p5⟩
  · have e : i = n := by omega
    subst e
    exact .inl ⟨hst ys H2 p, hd ys H2 hl p⟩
theorem lc_range {lo : Int} {n : Nat} {te : TE} {fr : St} {H1 : Hp} {acc : Addr} {Q : VK} (Pv : Nat → List V → Hp → Prop) (hn : n ≤ sizeLine) (h0 : Pv 0 [] (upd H1 acc (.lst [])))
    (hs : ∀ i ys H (N : V → Hp → Prop), i < n → ys.length = i → Pv i ys H → (∀ y H5, H5 acc = some (.lst ys) → Pv (i + 1) (ys ++ [y]) (upd H5 acc (.lst (ys ++ [y]))) → N y H5) → te (some (.int (lo + i)) :: fr) H N)
    (hd : ∀ ys H, ys.length = n → Pv n ys H → Q (.ref acc) H) :
    LcW (Itr lo n) (gName 0) te (none :: fr) H1 acc Q :=
  lc_by (J := Itr lo n) (val := fun i => .int (lo + i)) Pv hn h0 (fun i ys H hi p => ⟨hi, fun x H' y => y⟩) (fun ys H p => Nat.le_refl _) hs hd
theorem lc_list {K : PySem.W.Frag} {a : Addr} {xs : List V} {te : TE} {fr : St} {H1 : Hp} {acc : Addr} {Q : VK} (Pv : Nat → List V → Hp → Prop) (hn : xs.length ≤ sizeLine) (h0 : Pv 0 [] (upd H1 acc (.lst [])))
    (hl : ∀ i ys H, Pv i ys H → SqL K H a xs)
    (hs : ∀ i x ys H (N : V → Hp → Prop), xs[i]? = some x → ys.length = i → Pv i ys H → (∀ y H5, H5 acc = some (.lst ys) → Pv (i + 1) (ys ++ [y]) (upd H5 acc (.lst (ys ++ [y]))) → N y H5) → te (some x :: fr) H N)
    (hd : ∀ ys H, ys.length = xs.length → Pv xs.length ys H → Q (.ref acc) H) :
    LcW (Itl K a) (gName 0) te (none :: fr) H1 acc Q :=
  lc_by (J := Itl K a) (n := xs.length) (val := fun i => xs.getD i .non) Pv hn h0
    (fun i ys H hi p => ⟨⟨xs, xs[i], hl i ys H p, by simp [hi]⟩, fun x H' y => ⟨y.1, by
      have := y.2 xs (hl i ys H p)
      rw [List.getD_eq_getElem?_getD, this]; rfl⟩⟩)
    (fun ys H p => ⟨xs, hl _ ys H p, Nat.le_refl _⟩)
    (fun i ys H N hi hl' p k => by
      have e : xs[i]? = some (xs.getD i .non) := by rw [List.getD_eq_getElem?_getD, List.getElem?_eq_getElem hi]; rfl
      exact hs i _ ys H N e hl' p k) hd
end L2

set_option maxHeartbeats 4000000
/-! short words: callees, tests, sizes -/
namespace L2
open PySem PySem.Spec PyProof.Rows

structure Cal (P : Program) (w : World) (K : PySem.W.Frag) (mg : Str → Option Value) (base : Heap) (k : Nat) (x : Str) (ps : List Str) (sp : Sp) : Prop where
  ex : ∃ f fd, FnOk P w K mg base CX0 k f fd ps sp ∧ Binds K fd ps [] ∧ PySem.W.keepIn K (.ref f) = true ∧ mg x = some (.ref f)
theorem Cal.mono {P : Program} {w : World} {K : PySem.W.Frag} {mg : Str → Option Value} {base : Heap} {j k : Nat} {x : Str} {ps : List Str} {sp : Sp} (c : Cal P w K mg base j x ps sp) (h : j ≤ k) : Cal P w K mg base k x ps sp :=
  let ⟨f, fd, F, b, kp, m⟩ := c.ex
  ⟨f, fd, F.mono h, b, kp, m⟩
section
variable {X : Cx} {k : Nat} {x : Str} {ps : List Str} {sp : Sp} {p pos : Pos} {e : Expr} {es : List Expr} {t : TA}
theorem pe_cal (c : Cal X.prog X.w X.K X.mg X.base k x ps sp) (hr : Room k X.A) (hg : Gl X x) (ha : PA X (e :: es) t) (hdb : (x == ("__debug__" : Str)) = false := by decide)
    (he : starEach (e :: es) X.env = (false, eval e X.env) :: starEach es X.env := by rfl) (hpl : (backTo pos (starEach es X.env)).any (·.1) = false := by rfl) : PE X (.Call (.Name x p) (e :: es) [] pos) (tCall sp [] E0 t) := by
  obtain ⟨f, fd, F, b, kp, m⟩ := c.ex
  exact pe_call F hr hg m kp b .nil pass0 ha hdb he hpl
end

structure FunAt (K : PySem.W.Frag) (x : Str) (st : Stmt) (dV : Value) : Prop where
  ex : ∃ (f : Addr) (oc : Value) (od : Option Addr) (kV doc pm : Value) (an : Option Addr) (cdv ct : Value) (osl : Array (Option Value)),
    K.lookup f = some ⟨oc, od, .func (PySem.W.fnOf x x (defArgs st) (defBody st) (defScope st) dV kV doc pm an cdv ct), osl⟩ ∧ PySem.W.codeIn K cdv x = true ∧ PySem.W.keepIn K (.ref f) = true ∧ PySem.W.nsIn K mainGlobals x = some (some (.ref f))
theorem fat {K : PySem.W.Frag} {x : Str} {st : Stmt} {f : Addr} {oc : Value} {od an : Option Addr} {osl : Array (Option Value)} {dV kV doc pm cdv ct : Value} (a : PySem.W.nsIn K mainGlobals x = some (some (.ref f)))
    (l : K.lookup f = some ⟨oc, od, .func (PySem.W.fnOf x x (defArgs st) (defBody st) (defScope st) dV kV doc pm an cdv ct), osl⟩) (c : PySem.W.codeIn K cdv x = true) (k : PySem.W.keepIn K (.ref f) = true) : FunAt K x st dV :=
  ⟨f, oc, od, kV, doc, pm, an, cdv, ct, osl, l, c, k, a⟩
def BindsAll (K : PySem.W.Frag) (x : Str) (st : Stmt) (dV : Value) (ps : List Str) : Prop := ∀ (kV doc pm : Value) (an : Option Addr) (cdv ct : Value), Binds K (PySem.W.fnOf x x (defArgs st) (defBody st) (defScope st) dV kV doc pm an cdv ct) ps []
theorem binds0 {K : PySem.W.Frag} {x : Str} {st : Stmt} {ps : List Str}
    (h : ∀ (kV doc pm : Value) (an : Option Addr) (cdv ct : Value) (us : List Value), us.length = ps.length → bindArgs (PySem.W.fnOf x x (defArgs st) (defBody st) (defScope st) .none kV doc pm an cdv ct) ⟨us, []⟩ = pure (ps.zip us)) : BindsAll K x st .none ps :=
  fun kV doc pm an cdv ct => .all (h kV doc pm an cdv ct)
theorem bnd0 {K : PySem.W.Frag} {nm : Str} {st : Stmt} (h : ∀ (kV doc pm : Value) (an : Option Addr) (cdv ct : Value), bindArgs (PySem.W.fnOf nm nm (defArgs st) (defBody st) (defScope st) .none kV doc pm an cdv ct) ⟨[], []⟩ = pure []) : BindsAll K nm st .none [] := binds0 fun kV doc pm an cdv ct us hl => by
  cases us with
  | nil => exact h kV doc pm an cdv ct
  | cons => cases hl
theorem bnd1 {K : PySem.W.Frag} {nm : Str} {st : Stmt} {x0 : Str} (h : ∀ (kV doc pm : Value) (an : Option Addr) (cdv ct : Value) (a0 : Value), bindArgs (PySem.W.fnOf nm nm (defArgs st) (defBody st) (defScope st) .none kV doc pm an cdv ct) ⟨[a0], []⟩ = pure [(x0, a0)]) : BindsAll K nm st .none [x0] := binds0 fun kV doc pm an cdv ct us hl => by
  cases us with
  | nil => cases hl
  | cons b0 t0 =>
    cases t0 with
    | nil => exact h kV doc pm an cdv ct b0
    | cons => cases hl
theorem bnd2 {K : PySem.W.Frag} {nm : Str} {st : Stmt} {x0 x1 : Str} (h : ∀ (kV doc pm : Value) (an : Option Addr) (cdv ct : Value) (a0 a1 : Value), bindArgs (PySem.W.fnOf nm nm (defArgs st) (defBody st) (defScope st) .none kV doc pm an cdv ct) ⟨[a0, a1], []⟩ = pure [(x0, a0), (x1, a1)]) : BindsAll K nm st .none [x0, x1] := binds0 fun kV doc pm an cdv ct us hl => by
  cases us with
  | nil => cases hl
  | cons b0 t0 =>
    cases t0 with
    | nil => cases hl
    | cons b1 t1 =>
      cases t1 with
      | nil => exact h kV doc pm an cdv ct b0 b1
      | cons => cases hl
theorem bnd3 {K : PySem.W.Frag} {nm : Str} {st : Stmt} {x0 x1 x2 : Str} (h : ∀ (kV doc pm : Value) (an : Option Addr) (cdv ct : Value) (a0 a1 a2 : Value), bindArgs (PySem.W.fnOf nm nm (defArgs st) (defBody st) (defScope st) .none kV doc pm an cdv ct) ⟨[a0, a1, a2], []⟩ = pure [(x0, a0), (x1, a1), (x2, a2)]) : BindsAll K nm st .none [x0, x1, x2] := binds0 fun kV doc pm an cdv ct us hl => by
  cases us with
  | nil => cases hl
  | cons b0 t0 =>
    cases t0 with
    | nil => cases hl
    | cons b1 t1 =>
      cases t1 with
      | nil => cases hl
      | cons b2 t2 =>
        cases t2 with
        | nil => exact h kV doc pm an cdv ct b0 b1 b2
        | cons => cases hl
theorem bnd4 {K : PySem.W.Frag} {nm : Str} {st : Stmt} {x0 x1 x2 x3 : Str} (h : ∀ (kV doc pm : Value) (an : Option Addr) (cdv ct : Value) (a0 a1 a2 a3 : Value), bindArgs (PySem.W.fnOf nm nm (defArgs st) (defBody st) (defScope st) .none kV doc pm an cdv ct) ⟨[a0, a1, a2, a3], []⟩ = pure [(x0, a0), (x1, a1), (x2, a2), (x3, a3)]) : BindsAll K nm st .none [x0, x1, x2, x3] := binds0 fun kV doc pm an cdv ct us hl => by
  cases us with
  | nil => cases hl
  | cons b0 t0 =>
    cases t0 with
    | nil => cases hl
    | cons b1 t1 =>
      cases t1 with
      | nil => cases hl
      | cons b2 t2 =>
        cases t2 with
        | nil => cases hl
        | cons b3 t3 =>
          cases t3 with
          | nil => exact h kV doc pm an cdv ct b0 b1 b2 b3
          | cons => cases hl
theorem bnd5 {K : PySem.W.Frag} {nm : Str} {st : Stmt} {x0 x1 x2 x3 x4 : Str} (h : ∀ (kV doc pm : Value) (an : Option Addr) (cdv ct : Value) (a0 a1 a2 a3 a4 : Value), bindArgs (PySem.W.fnOf nm nm (defArgs st) (defBody st) (defScope st) .none kV doc pm an cdv ct) ⟨[a0, a1, a2, a3, a4], []⟩ = pure [(x0, a0), (x1, a1), (x2, a2), (x3, a3), (x4, a4)]) : BindsAll K nm st .none [x0, x1, x2, x3, x4] := binds0 fun kV doc pm an cdv ct us hl => by
  cases us with
  | nil => cases hl
  | cons b0 t0 =>
    cases t0 with
    | nil => cases hl
    | cons b1 t1 =>
      cases t1 with
      | nil => cases hl
      | cons b2 t2 =>
        cases t2 with
        | nil => cases hl
        | cons b3 t3 =>
          cases t3 with
          | nil => cases hl
          | cons b4 t4 =>
            cases t4 with
            | nil => exact h kV doc pm an cdv ct b0 b1 b2 b3 b4
            | cons => cases hl
section
variable {P : Program} {w : World} {K : PySem.W.Frag} {mg : Str → Option Value} {base : Heap}
theorem FunAt.cal {x : Str} {st : Stmt} {dV : Value} {N ps : List Str} {k : Nat} {sp : Sp} (F : FunAt K x st dV) {h : Heap} (X : K.In h) (G : h.Ns mainGlobals mg) (S : FnScope N ps (defScope st)) (bi : BindsAll K x st dV ps) (len : ∀ vs H Q E, sp vs H Q E → vs.length = ps.length)
    (hbody : ∀ (f : Addr) (cdv : Value) (A : Around) (outer : List Env) (s : Shared) (H : Hp) (vs : List V) (Q : VK) (E : XK), Room k (A.deeper (envOfC x (defScope st) s.heap.objs.size f cdv)) → sp vs H Q E →
      ∃ t, PSs (cxOf CX0 P w K mg base N x (defScope st) f cdv A outer s H E).nox (defBody st) t ∧ t { nx := fun _ H' => Q .non H', rt := Q } (start N vs) H) : Cal P w K mg base (k + 1) x ps sp := by
  obtain ⟨f, oc, od, kV, doc, pm, an, cdv, ct, osl, lk, hcd, kp, ns⟩ := F.ex
  refine ⟨f, _, fn_of lk hcd S len fun A outer s H vs Q E hr hsp => ?_, bi kV doc pm an cdv ct, kp, PySem.W.mg_of X G ns⟩
  obtain ⟨t, h, q⟩ := hbody f cdv A outer s H vs Q E hr hsp
  exact ⟨t, h.nox, q⟩
end
theorem cxK {P : Program} {w : World} {K : PySem.W.Frag} {mg : Str → Option Value} {base : Heap} {N : List Str} {x : Str} {sc : Scope} {f : Addr} {cdv : Value} {A : Around} {outer : List Env} {s : Shared} {H : Hp} {E : XK} : (cxOf CX0 P w K mg base N x sc f cdv A outer s H E).nox.K = K := rfl
theorem same_new {H : Hp} {p : Addr} (h : H p = none) (o : HO) : Same H (upd H p o) := fun b u q => by rw [upd_ne (ne_of_none q h)]; exact q

/-! ### classes of values -/
theorem kit_ii (K : PySem.W.Frag) : PySem.W.kitOne K (.type "int") (.type "int") = some true := by unfold PySem.W.kitOne; rw [if_pos (by decide)]
theorem kit_ib (K : PySem.W.Frag) : PySem.W.kitOne K (.type "int") (.type "bool") = some false := by with_unfolding_all rfl

/-! ### tests over ints -/
theorem eqI {a b : Int} {A B : Prop} (h1 : a = b → A) (h2 : a ≠ b → B) : if decide (V.int a = V.int b) = true then A else B := by
  by_cases h : a = b
  · subst h
    rw [decide_eq_true rfl]
    exact iteT (h1 rfl)
  · rw [decide_eq_false fun e => h (V.int.inj e)]
    exact iteF (h2 h)
theorem neI {a b : Int} {A B : Prop} (h1 : a ≠ b → A) (h2 : a = b → B) : if (!decide (V.int a = V.int b)) = true then A else B := by
  by_cases h : a = b
  · subst h
    rw [decide_eq_true rfl]
    exact iteF (h2 rfl)
  · rw [decide_eq_false fun e => h (V.int.inj e)]
    exact iteT (h1 h)
theorem decI {p : Prop} [Decidable p] {A B : Prop} (h1 : p → A) (h2 : ¬ p → B) : if decide p = true then A else B := by
  by_cases h : p
  · rw [decide_eq_true h]; exact iteT (h1 h)
  · rw [decide_eq_false h]; exact iteF (h2 h)
theorem blI {c : Bool} {A B : Prop} (h1 : c = true → A) (h2 : c = false → B) : if c = true then A else B := by
  cases c
  · exact iteF (h2 rfl)
  · exact iteT (h1 rfl)
theorem nblI {c : Bool} {A B : Prop} (h1 : c = false → A) (h2 : c = true → B) : if (!c) = true then A else B := by
  cases c
  · exact iteT (h1 rfl)
  · exact iteF (h2 rfl)
/-! ### a statement with its own aim: what follows is shown once -/
def tCut (t u : TS) : TS := fun D σ H => ∃ Good : St → Hp → Prop, t { D with nx := Good } σ H ∧ ∀ σ' H', Good σ' H' → u D σ' H'
theorem pss_cut {X : Cx} {st : Stmt} {rest : List Stmt} {t u : TS} (h1 : PS X st t) (h2 : PSs X rest u) : PSs X (st :: rest) (tCut t u) := by
  intro pins s σ H D I h
  obtain ⟨Good, ht, hu⟩ := h
  refine wpAny_execs_cons (thn (h1 pins s σ H { D with nx := Good } I ht) fun f s1 q => ?_)
  cases f with
  | next =>
    obtain ⟨σ', H', I', q⟩ := q
    exact h2 pins s1 σ' H' D I' (hu σ' H' q)
  | ret v => exact q
  | brk => exact q
  | cont => exact q
theorem same_upd {H H' : Hp} {p : Addr} {o : HO} (h : Same H H') (hn : H p = none) : Same H (upd H' p o) := fun b u q => by rw [upd_ne (ne_of_none q hn)]; exact h b u q
end L2

set_option maxHeartbeats 4000000
/-! bits of ints: the lowest place at 1 -/
namespace Bt
open PySem PyProof.Rows
theorem nat_and (x y : Nat) : (x &&& y) = 2 * ((x / 2) &&& (y / 2)) + (x % 2) * (y % 2) := by
  have h1 : (x &&& y) / 2 = (x / 2) &&& (y / 2) := Nat.and_div_two
  have h2 : (x &&& y) % 2 = 1 ↔ x % 2 = 1 ∧ y % 2 = 1 := Nat.and_mod_two_eq_one
  rcases Nat.mod_two_eq_zero_or_one x with a | a <;> rcases Nat.mod_two_eq_zero_or_one y with b | b <;> rw [a, b] at h2 ⊢ <;> omega
theorem nat_or (x y : Nat) : (x ||| y) = 2 * ((x / 2) ||| (y / 2)) + (x % 2 + y % 2 - (x % 2) * (y % 2)) := by
  have h1 : (x ||| y) / 2 = (x / 2) ||| (y / 2) := Nat.or_div_two
  have h2 : (x ||| y) % 2 = 1 ↔ x % 2 = 1 ∨ y % 2 = 1 := Nat.or_mod_two_eq_one
  rcases Nat.mod_two_eq_zero_or_one x with a | a <;> rcases Nat.mod_two_eq_zero_or_one y with b | b <;> rw [a, b] at h2 ⊢ <;> omega
end Bt

set_option maxHeartbeats 4000000
/-! how many binary places of a number are at 1 -/
namespace Pc
open PySem PyProof.Rows
def pc (n : Nat) : Nat := if h : n = 0 then 0 else n % 2 + pc (n / 2)
theorem pc_zero : pc 0 = 0 := by unfold pc; simp
theorem pc_half (n : Nat) : pc n = n % 2 + pc (n / 2) := by
  by_cases h : n = 0
  · subst h; rw [show (0 / 2 : Nat) = 0 from rfl, pc_zero]
  · conv => lhs; unfold pc
    rw [dif_neg h]
theorem nat_xor (x y : Nat) : (x ^^^ y) = 2 * ((x / 2) ^^^ (y / 2)) + (x % 2 + y % 2) % 2 := by
  have h1 : (x ^^^ y) / 2 = (x / 2) ^^^ (y / 2) := Nat.xor_div_two
  have h2 : (x ^^^ y) % 2 = (x % 2 + y % 2) % 2 := by
    have := Nat.xor_mod_two_eq_one (a := x) (b := y)
    rcases Nat.mod_two_eq_zero_or_one x with a | a <;> rcases Nat.mod_two_eq_zero_or_one y with b | b <;> rcases Nat.mod_two_eq_zero_or_one (x ^^^ y) with c | c <;> simp [a, b, c] at this ⊢
  omega
theorem pc_drop : ∀ (m n : Nat), n < m → n ≠ 0 → pc (n &&& (n - 1)) + 1 = pc n
  | 0, n, h, _ => by omega
  | m + 1, n, h, hn => by
    have e := Bt.nat_and n (n - 1)
    rw [pc_half n, pc_half (n &&& (n - 1))]
    rcases Nat.mod_two_eq_zero_or_one n with a | a
    · have e1 : (n - 1) / 2 = n / 2 - 1 := by omega
      rw [e1, a, Nat.zero_mul] at e
      have e2 : (n &&& (n - 1)) / 2 = n / 2 &&& (n / 2 - 1) := by omega
      have e3 : (n &&& (n - 1)) % 2 = 0 := by omega
      rw [e2, e3, a]
      have := pc_drop m (n / 2) (by omega) (by omega)
      omega
    · have e1 : (n - 1) / 2 = n / 2 := by omega
      have e0 : (n - 1) % 2 = 0 := by omega
      rw [e1, e0, Nat.mul_zero, Nat.and_self] at e
      have e2 : (n &&& (n - 1)) / 2 = n / 2 := by omega
      have e3 : (n &&& (n - 1)) % 2 = 0 := by omega
      rw [e2, e3, a]
      omega
theorem pc_xor : ∀ (m x y : Nat), x < m → y < m → pc (x ^^^ y) % 2 = (pc x + pc y) % 2
  | 0, x, y, h, _ => by omega
  | m + 1, x, y, hx, hy => by
    by_cases z : x = 0 ∧ y = 0
    · obtain ⟨rfl, rfl⟩ := z
      rw [show (0 ^^^ 0 : Nat) = 0 from rfl, pc_zero]
    · have e := nat_xor x y
      rw [pc_half (x ^^^ y), pc_half x, pc_half y, show (x ^^^ y) / 2 = x / 2 ^^^ y / 2 by omega]
      by_cases q : x / 2 < m ∧ y / 2 < m
      · have := pc_xor m (x / 2) (y / 2) q.1 q.2
        omega
      · exfalso; omega
theorem pcx (x y : Nat) : pc (x ^^^ y) % 2 = (pc x + pc y) % 2 := pc_xor (x + y + 1) x y (by omega) (by omega)
theorem or_eq : ∀ (m x y : Nat), x < m → y < m → (x ||| y) = (x ^^^ y) + (x &&& y)
  | 0, x, y, h, _ => by omega
  | m + 1, x, y, hx, hy => by
    by_cases z : x = 0 ∧ y = 0
    · obtain ⟨rfl, rfl⟩ := z; rfl
    · have e := nat_xor x y
      have e1 := Bt.nat_and x y
      have e2 := Bt.nat_or x y
      by_cases q : x / 2 < m ∧ y / 2 < m
      · have := or_eq m (x / 2) (y / 2) q.1 q.2
        rcases Nat.mod_two_eq_zero_or_one x with a | a <;> rcases Nat.mod_two_eq_zero_or_one y with b | b <;> rw [a, b] at e e1 e2 <;> omega
      · exfalso; omega
theorem and_i (x y : Nat) : Builtin.bitAnd (x : Int) (y : Int) = ((x &&& y : Nat) : Int) := by rw [bitAnd_pp (by omega) (by omega)]; simp
theorem xor_i (x y : Nat) : Builtin.bitXor (x : Int) (y : Int) = ((x ^^^ y : Nat) : Int) := by
  have h : Builtin.bitXor (x : Int) (y : Int) = Builtin.bitOr x y - Builtin.bitAnd x y := rfl
  have h2 : Builtin.bitOr (x : Int) (y : Int) = ((x ||| y : Nat) : Int) := by
    unfold Builtin.bitOr
    rw [bitAnd_nn (by unfold Builtin.bitNot; omega) (by unfold Builtin.bitNot; omega), bitNot_bitNot, bitNot_bitNot, bitNot_bitNot]
    simp
  rw [h, h2, and_i, or_eq (x + y + 1) x y (by omega) (by omega)]
  omega
end Pc

set_option maxHeartbeats 4000000
namespace K51
open Pc
/-! lists of equations over binary places: the reckoning -/
abbrev Eqn := Nat × Nat
def add (e f : Eqn) : Eqn := (e.1 ^^^ f.1, e.2 ^^^ f.2)
def sat (x : Nat) (e : Eqn) : Prop := pc (e.1 &&& x) % 2 = e.2
def bl (m : Nat) : Nat := if m = 0 then 0 else m.log2 + 1
theorem bl_le {m n : Nat} : bl m ≤ n ↔ m < 2 ^ n := by
  unfold bl
  by_cases h : m = 0
  · subst h; simp [Nat.two_pow_pos]
  · rw [if_neg h, ← Nat.log2_lt h]; omega
theorem bl_zero {m : Nat} : bl m = 0 ↔ m = 0 := by
  unfold bl
  by_cases h : m = 0 <;> simp [h]
theorem bl_lt (m : Nat) : m < 2 ^ bl m := bl_le.mp (Nat.le_refl _)
theorem bl_ge {m k : Nat} (h : bl m = k + 1) : 2 ^ k ≤ m := by
  rcases Nat.lt_or_ge m (2 ^ k) with c | c
  · have := bl_le.mpr c; omega
  · exact c
theorem xor_low : ∀ (k m o : Nat), 2 ^ k ≤ m → m < 2 ^ (k + 1) → 2 ^ k ≤ o → o < 2 ^ (k + 1) → (m ^^^ o) < 2 ^ k
  | 0, m, o, a, b, c, d => by
    obtain rfl : m = 1 := by simp at a b; omega
    obtain rfl : o = 1 := by simp at c d; omega
    decide
  | k + 1, m, o, a, b, c, d => by
    have e1 : 2 ^ (k + 1 + 1) = 2 * 2 ^ (k + 1) := Nat.pow_succ'
    have e2 : 2 ^ (k + 1) = 2 * 2 ^ k := Nat.pow_succ'
    have := xor_low k (m / 2) (o / 2) (by omega) (by omega) (by omega) (by omega)
    have e := nat_xor m o
    omega
theorem xor_less {m o : Nat} (h : bl m = bl o) (h0 : m ≠ 0) : (m ^^^ o) < m := by
  cases e : bl m with
  | zero => exact absurd (bl_zero.mp e) h0
  | succ k =>
    have a := bl_lt m
    have b := bl_lt o
    rw [← h, e] at b
    rw [e] at a
    exact Nat.lt_of_lt_of_le (xor_low k m o (bl_ge e) a (bl_ge (h ▸ e)) b) (bl_ge e)
theorem sat_add {x : Nat} {e f : Eqn} (he : sat x e) (hf : sat x f) (_ : e.2 < 2) (_ : f.2 < 2) : sat x (add e f) := by
  unfold sat add at *
  dsimp only
  rw [Nat.and_xor_distrib_right, pcx]
  have := nat_xor e.2 f.2
  have z : e.2 / 2 = 0 := by omega
  have z' : f.2 / 2 = 0 := by omega
  rw [z, z'] at this
  have q : (0 ^^^ 0 : Nat) = 0 := rfl
  omega
theorem add_add (e f : Eqn) : add (add e f) f = e := by
  unfold add
  simp [Nat.xor_assoc]
theorem bit_xor {a b : Nat} (h1 : a < 2) (h2 : b < 2) : (a ^^^ b) < 2 := Nat.xor_lt_two_pow (n := 1) h1 h2
def comb : List Eqn → Nat → Eqn
  | [], _ => (0, 0)
  | e :: r, c => if c % 2 = 1 then add e (comb r (c / 2)) else comb r (c / 2)
theorem add_comm' (e f : Eqn) : add e f = add f e := by unfold add; rw [Nat.xor_comm e.1, Nat.xor_comm e.2]
theorem add_assoc' (e f g : Eqn) : add (add e f) g = add e (add f g) := by unfold add; simp [Nat.xor_assoc]
theorem comb_xor : ∀ (es : List Eqn) (c d : Nat), comb es (c ^^^ d) = add (comb es c) (comb es d)
  | [], _, _ => by simp [comb, add]
  | e :: r, c, d => by
    have x := nat_xor c d
    have h1 : (c ^^^ d) / 2 = c / 2 ^^^ d / 2 := by omega
    have h2 : (c ^^^ d) % 2 = (c % 2 + d % 2) % 2 := by omega
    have ih := comb_xor r (c / 2) (d / 2)
    unfold comb
    rw [h1, h2, ih]
    rcases Nat.mod_two_eq_zero_or_one c with a | a <;> rcases Nat.mod_two_eq_zero_or_one d with b | b <;> rw [a, b]
    · rfl
    · simp only [show (0 + 1) % 2 = 1 from rfl, if_true, show ¬ (0 = 1) by decide, if_false]
      rw [← add_assoc', ← add_assoc', add_comm' e]
    · simp only [show (1 + 0) % 2 = 1 from rfl, if_true, show ¬ (0 = 1) by decide, if_false]
      rw [add_assoc']
    · simp only [show ¬ ((1 + 1) % 2 = 1) by decide, if_true, if_false]
      rw [add_comm' e (comb r (c / 2)), add_assoc', ← add_assoc' e e, show add e e = (0, 0) by unfold add; simp, show add (0, 0) (comb r (d / 2)) = comb r (d / 2) by unfold add; simp]
theorem comb_zero : ∀ es : List Eqn, comb es 0 = (0, 0)
  | [] => rfl
  | e :: r => by unfold comb; simp [comb_zero r]
theorem comb_pow : ∀ (es : List Eqn) (i : Nat) (e : Eqn), es[i]? = some e → comb es (2 ^ i) = e
  | [], i, e, h => by simp at h
  | f :: r, 0, e, h => by
    have : f = e := by simpa using h
    subst this
    unfold comb
    simp [comb_zero, add]
  | f :: r, i + 1, e, h => by
    have q : r[i]? = some e := by simpa using h
    have e1 : 2 ^ (i + 1) / 2 = 2 ^ i := by rw [Nat.pow_succ']; omega
    have e2 : 2 ^ (i + 1) % 2 = 0 := by rw [Nat.pow_succ']; omega
    unfold comb
    rw [e1, e2]
    simpa using comb_pow r i e q
theorem comb_bit : ∀ (es : List Eqn) (c : Nat), (∀ e ∈ es, e.2 < 2) → (comb es c).2 < 2
  | [], _, _ => by unfold comb; decide
  | e :: r, c, h => by
    have ih := comb_bit r (c / 2) fun f hf => h f (List.mem_cons_of_mem _ hf)
    unfold comb
    split
    · exact bit_xor (h e List.mem_cons_self) ih
    · exact ih
theorem and_top {m k : Nat} (h1 : 2 ^ k ≤ m) (h2 : m < 2 ^ (k + 1)) : m &&& 2 ^ k = 2 ^ k := by
  have e : m / 2 ^ k = 1 := by
    rw [Nat.pow_succ'] at h2
    have p := Nat.two_pow_pos k
    rw [Nat.div_eq_iff p]
    omega
  refine Nat.eq_of_testBit_eq fun j => ?_
  rw [Nat.testBit_and, Nat.testBit_two_pow]
  by_cases q : k = j
  · subst q
    rw [Nat.testBit_eq_decide_div_mod_eq, e]
    simp
  · simp [q]
theorem and_below {m k : Nat} (h : m < 2 ^ k) : m &&& 2 ^ k = 0 := by
  refine Nat.eq_of_testBit_eq fun j => ?_
  rw [Nat.testBit_and, Nat.testBit_two_pow, Nat.zero_testBit]
  by_cases q : k = j
  · subst q
    rw [Nat.testBit_lt_two_pow h]
    rfl
  · simp [q]
theorem pc_pow : ∀ k : Nat, pc (2 ^ k) = 1
  | 0 => by rw [pc_half]; show 1 % 2 + pc (1 / 2) = 1; rw [show (1 / 2 : Nat) = 0 from rfl, pc_zero]
  | k + 1 => by
    have e1 : 2 ^ (k + 1) / 2 = 2 ^ k := by rw [Nat.pow_succ']; omega
    have e2 : 2 ^ (k + 1) % 2 = 0 := by rw [Nat.pow_succ']; omega
    rw [pc_half, e1, e2, pc_pow k]
theorem or_top {x k : Nat} (h : x < 2 ^ k) : (x ||| 2 ^ k) = x ^^^ 2 ^ k := by
  rw [or_eq (x + 2 ^ k + 1) x (2 ^ k) (by omega) (by omega), and_below h, Nat.add_zero]
theorem xor_top {x k : Nat} (h : x < 2 ^ k) : (x ^^^ 2 ^ k) = x + 2 ^ k := by
  have := Nat.two_pow_add_eq_or_of_lt h 1
  rw [Nat.mul_one] at this
  rw [← or_top h, Nat.or_comm, ← this, Nat.add_comm]
theorem sat_set {x k : Nat} {e : Eqn} (hx : x < 2 ^ k) (hk : bl e.1 = k + 1) (hb : e.2 < 2) (n : ¬ sat x e) : sat (x ||| 2 ^ k) e := by
  have a := bl_lt e.1
  rw [hk] at a
  unfold sat at *
  rw [or_top hx, Nat.and_xor_distrib_left, pcx, and_top (bl_ge hk) a, pc_pow]
  omega
theorem sat_keep {x k : Nat} {e : Eqn} (hx : x < 2 ^ k) (hk : bl e.1 ≤ k) (h : sat x e) : sat (x ||| 2 ^ k) e := by
  unfold sat at *
  rw [or_top hx, Nat.and_xor_distrib_left, pcx, and_below (bl_le.mp hk), pc_zero, Nat.add_zero]
  exact h
theorem or_lt {x k : Nat} (hx : x < 2 ^ k) : (x ||| 2 ^ k) < 2 ^ (k + 1) := by
  rw [or_top hx, xor_top hx, Nat.pow_succ']
  omega
def places (c n : Nat) : List Nat := (List.range n).filter fun j => decide (c / 2 ^ j % 2 = 1)
theorem places_lt {c n p : Nat} (h : p ∈ places c n) : p < n := List.mem_range.mp (List.mem_filter.mp h).1
theorem places_succ (c n : Nat) : places c (n + 1) = places c n ++ (if c / 2 ^ n % 2 = 1 then [n] else []) := by
  unfold places
  rw [List.range_succ, List.filter_append]
  by_cases h : c / 2 ^ n % 2 = 1 <;> simp [h]
abbrev Ent := Nat × Nat × Nat
def eqOf (t : Ent) : Eqn := (t.1, t.2.1)
structure Good (es : List Eqn) (i : Nat) (ts : List Ent) : Prop where
  nz : ∀ t ∈ ts, t.1 ≠ 0
  com : ∀ t ∈ ts, comb es t.2.2 = eqOf t
  lt : ∀ t ∈ ts, t.2.2 < 2 ^ i
  nd : (ts.map fun t => bl t.1).Nodup
  len : ts.length ≤ i
  all : ∀ x, (∀ t ∈ ts, sat x (eqOf t)) → ∀ j e, j < i → es[j]? = some e → sat x e
theorem Good.start (es : List Eqn) : Good es 0 [] := ⟨by simp, by simp, by simp, by simp, by simp, fun _ _ j e h => by omega⟩
structure Left (es : List Eqn) (i : Nat) (ts : List Ent) (e : Eqn) (t : Ent) : Prop where
  com : comb es t.2.2 = eqOf t
  lt : t.2.2 < 2 ^ (i + 1)
  sat : ∀ x, (∀ t ∈ ts, sat x (eqOf t)) → sat x (eqOf t) → sat x e
theorem Left.start {es : List Eqn} {i : Nat} {ts : List Ent} {e : Eqn} (h : es[i]? = some e) : Left es i ts e (e.1, e.2, 2 ^ i) :=
  ⟨comb_pow es i e h, Nat.pow_lt_pow_right (by decide) (Nat.lt_succ_self _), fun _ _ z => z⟩
theorem eqOf_add (s t : Ent) : eqOf (s.1 ^^^ t.1, s.2.1 ^^^ t.2.1, s.2.2 ^^^ t.2.2) = add (eqOf s) (eqOf t) := rfl
theorem Left.step {es : List Eqn} {i : Nat} {ts : List Ent} {e : Eqn} {s t : Ent} (hb : ∀ e ∈ es, e.2 < 2) (G : Good es i ts) (L : Left es i ts e s) (ht : t ∈ ts) : Left es i ts e (s.1 ^^^ t.1, s.2.1 ^^^ t.2.1, s.2.2 ^^^ t.2.2) := by
  refine ⟨?_, ?_, fun x hx z => L.sat x hx ?_⟩
  · rw [eqOf_add]
    show comb es (s.2.2 ^^^ t.2.2) = _
    rw [comb_xor, L.com, G.com t ht]
  · exact Nat.xor_lt_two_pow L.lt (Nat.lt_trans (G.lt t ht) (Nat.pow_lt_pow_right (by decide) (Nat.lt_succ_self _)))
  · rw [eqOf_add] at z
    have b1 : (eqOf s).2 < 2 := by rw [← L.com]; exact comb_bit es _ hb
    have b2 : (eqOf t).2 < 2 := by rw [← G.com t ht]; exact comb_bit es _ hb
    have q := sat_add z (hx t ht) (bit_xor b1 b2) b2
    rw [add_add] at q
    exact q
theorem Left.bit {es : List Eqn} {i : Nat} {ts : List Ent} {e : Eqn} {t : Ent} (hb : ∀ e ∈ es, e.2 < 2) (L : Left es i ts e t) : t.2.1 < 2 := by
  have : (eqOf t).2 < 2 := by rw [← L.com]; exact comb_bit es _ hb
  exact this
theorem pow_le_succ (i : Nat) : 2 ^ i < 2 ^ (i + 1) := Nat.pow_lt_pow_right (by decide) (Nat.lt_succ_self _)
theorem Good.put {es : List Eqn} {i : Nat} {ts : List Ent} {e : Eqn} {t : Ent} (G : Good es i ts) (he : es[i]? = some e) (L : Left es i ts e t) (h0 : t.1 ≠ 0) (hn : ∀ s ∈ ts, bl s.1 ≠ bl t.1) : Good es (i + 1) (ts ++ [t]) where
  nz := fun s hs => by
    rcases List.mem_append.mp hs with q | q
    · exact G.nz s q
    · rw [List.mem_singleton.mp q]; exact h0
  com := fun s hs => by
    rcases List.mem_append.mp hs with q | q
    · exact G.com s q
    · rw [List.mem_singleton.mp q]; exact L.com
  lt := fun s hs => by
    rcases List.mem_append.mp hs with q | q
    · exact Nat.lt_trans (G.lt s q) (pow_le_succ i)
    · rw [List.mem_singleton.mp q]; exact L.lt
  nd := by
    rw [List.map_append, List.nodup_append]
    refine ⟨G.nd, by simp, fun a ha b hb => ?_⟩
    obtain ⟨s, hs, rfl⟩ := List.mem_map.mp ha
    obtain rfl : b = bl t.1 := by simpa using hb
    exact hn s hs
  len := by rw [List.length_append]; have := G.len; simp; omega
  all := fun x hx j f hj hf => by
    have h1 : ∀ s ∈ ts, sat x (eqOf s) := fun s hs => hx s (List.mem_append_left _ hs)
    by_cases hji : j < i
    · exact G.all x h1 j f hji hf
    · obtain rfl : j = i := by omega
      rw [he] at hf
      cases hf
      exact L.sat x h1 (hx t (by simp))
theorem Good.skip {es : List Eqn} {i : Nat} {ts : List Ent} {e : Eqn} {t : Ent} (G : Good es i ts) (he : es[i]? = some e) (L : Left es i ts e t) (h0 : t.1 = 0) (hb : t.2.1 = 0) : Good es (i + 1) ts where
  nz := G.nz
  com := G.com
  lt := fun s hs => Nat.lt_trans (G.lt s hs) (pow_le_succ i)
  nd := G.nd
  len := Nat.le_succ_of_le G.len
  all := fun x hx j f hj hf => by
    by_cases hji : j < i
    · exact G.all x hx j f hji hf
    · obtain rfl : j = i := by omega
      rw [he] at hf
      cases hf
      refine L.sat x hx ?_
      unfold sat eqOf
      rw [h0, hb, Nat.zero_and, pc_zero]
end K51
namespace K51
open Pc
theorem inj_nodup {f : Ent → Nat} : ∀ {ts : List Ent}, (ts.map f).Nodup → ∀ {s t}, s ∈ ts → t ∈ ts → f s = f t → s = t
  | [], _, s, t, hs, _, _ => by cases hs
  | a :: r, nd, s, t, hs, ht, e => by
    rw [List.map_cons, List.nodup_cons] at nd
    rcases List.mem_cons.mp hs with h1 | h1 <;> rcases List.mem_cons.mp ht with h2 | h2
    · rw [h1, h2]
    · exact absurd (List.mem_map.mpr ⟨t, h2, by rw [← e, h1]⟩) nd.1
    · exact absurd (List.mem_map.mpr ⟨s, h1, by rw [e, h2]⟩) nd.1
    · exact inj_nodup nd.2 h1 h2 e
theorem heights {ts : List Ent} {ks : List Int} (nd : (ts.map fun t => bl t.1).Nodup) (p : ks.Perm (ts.map fun t => (bl t.1 : Int))) (o : ks.Pairwise (· ≤ ·)) : ks.Pairwise (· < ·) := by
  have n1 : (ts.map fun t => (bl t.1 : Int)).Nodup := by
    rw [List.Nodup, List.pairwise_map] at nd ⊢
    exact nd.imp fun h z => h (Int.ofNat.inj z)
  have n2 : ks.Nodup := p.nodup_iff.mpr n1
  exact (o.and n2).imp fun ⟨a, b⟩ => by omega
structure Sol (ts : List Ent) (ks : List Int) (j x : Nat) : Prop where
  done : ∀ t ∈ ts, ∀ i, i < j → ks[i]? = some (bl t.1 : Int) → sat x (eqOf t)
  low : ∀ h, ks[j]? = some h → x < 2 ^ (h.toNat - 1)
theorem Sol.start (ts : List Ent) (ks : List Int) : Sol ts ks 0 0 := ⟨fun _ _ i h => by omega, fun h _ => Nat.two_pow_pos _⟩
theorem rise {ks : List Int} (o : ks.Pairwise (· < ·)) {i j : Nat} {a b : Int} (h : i < j) (ha : ks[i]? = some a) (hb : ks[j]? = some b) : a < b := by
  obtain ⟨h1, rfl⟩ := List.getElem?_eq_some_iff.mp ha
  obtain ⟨h2, rfl⟩ := List.getElem?_eq_some_iff.mp hb
  exact List.pairwise_iff_getElem.mp o i j h1 h2 h
theorem Sol.step {ts : List Ent} {ks : List Int} {j x : Nat} {t : Ent} (S : Sol ts ks j x) (nd : (ts.map fun t => bl t.1).Nodup) (o : ks.Pairwise (· < ·)) (ht : t ∈ ts) (nz : t.1 ≠ 0) (hb : t.2.1 < 2) (hj : ks[j]? = some (bl t.1 : Int)) :
    (sat x (eqOf t) → Sol ts ks (j + 1) x) ∧ (¬ sat x (eqOf t) → Sol ts ks (j + 1) (x ||| 2 ^ (bl t.1 - 1))) := by
  have h0 : bl t.1 ≠ 0 := fun z => nz (bl_zero.mp z)
  obtain ⟨k, hk⟩ : ∃ k, bl t.1 = k + 1 := ⟨bl t.1 - 1, by omega⟩
  have hx := S.low _ hj
  rw [Int.toNat_natCast, hk, Nat.add_sub_cancel] at hx
  have same : ∀ s ∈ ts, ks[j]? = some (bl s.1 : Int) → s = t := fun s hs e => inj_nodup nd hs ht (by rw [e] at hj; exact Int.ofNat.inj (Option.some.inj hj))
  have next : ∀ h, ks[j + 1]? = some h → k + 1 ≤ h.toNat - 1 := fun h e => by
    have := rise o (Nat.lt_succ_self j) hj e
    omega
  rw [hk, Nat.add_sub_cancel]
  constructor
  · intro z
    refine ⟨fun s hs i hi e => ?_, fun h e => ?_⟩
    · by_cases q : i < j
      · exact S.done s hs i q e
      · obtain rfl : i = j := by omega
        rw [same s hs e]
        exact z
    · exact Nat.lt_of_lt_of_le hx (Nat.pow_le_pow_right (by decide) (Nat.le_trans (Nat.le_succ k) (next h e)))
  · intro z
    refine ⟨fun s hs i hi e => ?_, fun h e => ?_⟩
    · by_cases q : i < j
      · have := rise o q e hj
        exact sat_keep hx (by show bl s.1 ≤ k; omega) (S.done s hs i q e)
      · obtain rfl : i = j := by omega
        rw [same s hs e]
        exact sat_set hx hk hb z
    · exact Nat.lt_of_lt_of_le (or_lt hx) (Nat.pow_le_pow_right (by decide) (next h e))
theorem Sol.all {ts : List Ent} {ks : List Int} {x : Nat} (S : Sol ts ks ks.length x) (p : ks.Perm (ts.map fun t => (bl t.1 : Int))) : ∀ t ∈ ts, sat x (eqOf t) := fun t ht => by
  have m : (bl t.1 : Int) ∈ ks := p.mem_iff.mpr (List.mem_map.mpr ⟨t, ht, rfl⟩)
  obtain ⟨i, hi, e⟩ := List.mem_iff_getElem.mp m
  exact S.done t ht i hi (by rw [List.getElem?_eq_getElem hi, e])
end K51

set_option maxHeartbeats 4000000
/-! zip of two lists or tuples: its draws are told by what they do, not by what they are -/
namespace Zo
open PySem PySem.Spec PyProof.Rows
open Sem (wp)
section
variable {prog : Program} {w : World} {A : Around} {E : Value → Shared → Prop} {hp : Heap} {g : Array GenState} {d : Drawn} {tk : Nat} {os : OsState}
end
end Zo

set_option maxHeartbeats 4000000
namespace Zn
open PySem PySem.Spec PyProof.Rows
open Sem (wp)
section
variable {prog : Program} {w : World} {A : Around} {E : Value → Shared → Prop} {hp : Heap} {g : Array GenState} {d : Drawn} {tk : Nat} {os : OsState} {it l : Addr} {i n : Nat} {its : Array Value} {oi ol : Obj} {R : PySem.Fin → Shared → Prop}
end
end Zn

set_option maxHeartbeats 4000000
/-! zip of two lists or tuples, made and walked -/
namespace Zp
open PySem PySem.Spec PyProof.Rows Zo
open Sem (wp)
section
variable {prog : Program} {w : World} {A : Around}
variable {E : Value → Shared → Prop}
end
/-! zip(..) made -/
section
variable {prog : Program} {w : World} {A : Around} {E : Value → Shared → Prop} {s : Shared}
end
end Zp

set_option maxHeartbeats 4000000
namespace L2
open PySem PySem.Spec PyProof.Rows
section
variable {X : Cx} {pins : List (Addr × Obj)} {σ : St} {H : Hp} {s : Shared} {h' : Heap}
theorem Inv.turnedL {t' : Nat} {ch : List Addr} (I : Inv X pins σ H s) (k : ∀ b o, b ∉ ch → s.heap.get? b = some o → h'.get? b = some o) (hf : ∀ b ∈ ch, FpOk X pins H b) : Inv X pins σ H { s with heap := h', toks := t' } := by
  have nit : ∀ b u, H b = some u → b ∉ ch := fun b u e z => by rw [(hf b z).1] at e; cases e
  refine I.step (g' := s.gens) (d' := s.drawn) (ch := ch) (fun b hb => ⟨(hf b hb).2.2.2.1, (hf b hb).2.1, (hf b hb).2.2.2.2.1, (hf b hb).2.2.2.2.2⟩) (fun b o _ _ hc e _ => k b o hc e) (fun b o _ _ hc e _ => ⟨o.slots, k b o hc e⟩) (fun _ _ _ _ n => n)
    (fun b o hc e => ⟨o, k b o hc e⟩) (fun _ _ e => e) (fun _ _ _ e => e) (fun b ps e => ⟨#[], by rw [e]; simp⟩) (fun m hm => ?_) (fun b u e => ?_) I.bare
  · obtain ⟨o, es, ep, ho, r⟩ := hm
    exact ⟨o, es, ep, k _ o (fun z => (hf _ z).2.1 rfl) ho, r⟩
  · refine (I.hok b u e).stay (fun c v hc q => k c v ?_ q) (fun _ q => q) fun _ _ q => q
    rcases hc with z | z
    · rw [z]; exact nit b u e
    · exact nit c _ z
theorem Inv.turnedT {t' : Nat} {ch : List Addr} {T : Addr} {xs : List V} {its : List Value} (I : Inv X pins σ H s) (k : ∀ b o, b ∉ ch → s.heap.get? b = some o → h'.get? b = some o) (hf : ∀ b ∈ ch, FpOk X pins H b) (hT : s.heap.objs.size ≤ T) (hv : Vals xs its) (hz : xs.length ≤ sizeLine) (ht : IsTup h' T its.toArray) :
    Inv X pins σ (upd H T (.tup xs)) { s with heap := h', toks := t' } := by
  have nit : ∀ b u, H b = some u → b ∉ ch := fun b u e z => by rw [(hf b z).1] at e; cases e
  have hTn : H T = none := I.hok.fresh hT
  have neT : ∀ b o, s.heap.get? b = some o → b ≠ T := fun b o e => Nat.ne_of_lt (Nat.lt_of_lt_of_le (Heap.lt_size e) hT)
  have neH : ∀ b u, H b = some u → b ≠ T := fun b u e z => by rw [z, hTn] at e; cases e
  refine I.step (g' := s.gens) (d' := s.drawn) (ch := ch) (fun b hb => ⟨(hf b hb).2.2.2.1, (hf b hb).2.1, (hf b hb).2.2.2.2.1, (hf b hb).2.2.2.2.2⟩) (fun b o _ _ hc e _ => k b o hc e) (fun b o _ _ hc e _ => ⟨o.slots, k b o hc e⟩)
    (fun b o _ e n => by rw [upd_ne (neT b o e)]; exact n)
    (fun b o hc e => ⟨o, k b o hc e⟩) (fun b ys e => by rw [upd_ne (neH b _ e)]; exact e) (fun b o u e => by rw [upd_ne (neH b _ e)]; exact e) (fun b ps e => ⟨#[], by rw [upd_ne (neH b _ e), e]; simp⟩) (fun m hm => ?_) (fun b u e => ?_) I.bare
  · obtain ⟨o, es, ep, ho, r⟩ := hm
    exact ⟨o, es, ep, k _ o (fun z => (hf _ z).2.1 rfl) ho, r⟩
  · by_cases hb : b = T
    · subst hb
      rw [upd_same] at e
      cases e
      exact ⟨hz, its, hv, ht⟩
    · rw [upd_ne hb] at e
      refine (I.hok b u e).stay (fun c v hc q => k c v ?_ q) (fun c q => by rw [upd_ne (neH c _ q)]; exact q) fun c ys q => by rw [upd_ne (neH c _ q)]; exact q
      rcases hc with z | z
      · rw [z]; exact nit b u e
      · exact nit c _ z
end
section
variable {X : Cx} {es : List Expr} {kk : Nat} {tp : Pos}
end
end L2

set_option maxHeartbeats 4000000
/-! more rules: great shifts, bit_length, any and all of bools, lists of ints compared -/
namespace L2
open PySem PySem.Spec PyProof.Rows
section
variable {X : Cx}
def CShl (i j : Int) : Prop := ∃ a, Sz a i ∧ 0 ≤ j ∧ (a : Int) + j ≤ 1048576
theorem op_shlS : OpR X (binaryOp .LShift) (rI CShl fun i j => .int (i * 2 ^ j.toNat)) := opI fun i j _ _ _ _ _ hc q => by
  obtain ⟨a, h1, h2, h3⟩ := hc
  have := h1.bits
  exact lshift_int h2 (by omega) q
theorem mt_bitlen : MtR X "int.bit_length" (fun x xs H Q => ∃ i, x = .int i ∧ xs = [] ∧ Q (.int (Builtin.Int.intBits i : Nat)) H) := by
  intro pins s σ H x xs v us Q I rx rs h
  obtain ⟨i, rfl, rfl, q⟩ := h
  obtain ⟨t, rfl⟩ := rx
  cases rs
  refine call_gives PySem.F.slot_int_bit_length (typeIs_int s i t) PySem.F.entry_int_bit_length (PySem.F.args_int_bit_length_1 _) (PySem.AutoIntG2.int_bit_length_int_0 i t) ?_
  exact ⟨.int (Builtin.Int.intBits i : Nat), H, I.tok _, ⟨_, rfl⟩, q⟩
theorem call_anyL (hc : X.calm = true) : CallR X (.builtin "any") (fun xs H Q => ∃ (p : Addr) (bs : List Bool), xs = [.ref p] ∧ SqL X.K H p (bs.map V.bl) ∧ Q (.bl (bs.any id)) H) := by
  intro pins s σ H xs us Q I r h
  obtain ⟨p, bs, rfl, hq, q⟩ := h
  obtain ⟨u, rfl, ru⟩ := r.one
  cases ru
  obtain ⟨its, rv, pl, hz⟩ := I.list hq
  have hlen : its.length = bs.length := by rw [← rv.length, List.length_map]
  refine call_any_walk (wpAny_pyIter_list pl.isList ?_)
  have W := Walks.list (prog := X.prog) (w := X.w) (A := X.A.in1) (show X.A.in1.handled = none from I.ok.hd hc) s.heap.objs.size p (by
    obtain ⟨o, e, _⟩ := pl.isList
    exact Nat.ne_of_lt (Heap.lt_size e)) its.toArray
  refine ⟨s.heap.objs.size, _, _, _, _, _, fun i => bs.getD i false, rfl, W, ⟨⟨_, Heap.get?_push_size _ rfl, rfl, rfl⟩, pl.isList.push _⟩, ?_, fun h' tk hk => ?_⟩
  · intro i v s' Q' E' hv hQ
    have hv' : its[i]? = some v := by simpa using hv
    have hi : i < bs.length := by rw [← hlen]; exact (List.getElem?_eq_some_iff.mp hv').1
    have hb : (bs.map V.bl)[i]? = some (.bl (bs.getD i false)) := by
      rw [List.getElem?_map, List.getElem?_eq_getElem hi, List.getD_eq_getElem?_getD, List.getElem?_eq_getElem hi]; rfl
    obtain ⟨u, hu, ru⟩ := rv.get hb
    rw [hv'] at hu
    cases hu
    cases ru
    exact wpAny_truthy_bool hQ
  · have e : (List.range its.toArray.size).any (fun i => bs.getD i false) = bs.any id := by
      rw [List.size_toArray, hlen]
      rw [Bool.eq_iff_iff, List.any_eq_true, List.any_eq_true]
      constructor
      · rintro ⟨i, hi, hb⟩
        have hi' : i < bs.length := List.mem_range.mp hi
        rw [List.getD_eq_getElem?_getD, List.getElem?_eq_getElem hi'] at hb
        exact ⟨bs[i], List.getElem_mem hi', hb⟩
      · rintro ⟨b, hb, hb'⟩
        obtain ⟨i, hi, rfl⟩ := List.mem_iff_getElem.mp hb
        refine ⟨i, List.mem_range.mpr hi, ?_⟩
        rw [List.getD_eq_getElem?_getD, List.getElem?_eq_getElem hi]
        exact hb'
    rw [e]
    refine ⟨.bl (bs.any id), H, ?_, rfl, q⟩
    exact I.kept (t' := tk) fun b o eo => hk b o (by simp; exact Nat.ne_of_lt (Heap.lt_size eo)) (Heap.get?_push_of_some _ eo)
end
end L2

namespace L2
open PySem PySem.Spec PyProof.Rows

/-! ### lists of pairs as tables -/
section
variable {κ : Type} [DecidableEq κ]
def valV (kvs : List (κ × V)) (k : κ) : Option V := (kvs.find? fun kv => decide (kv.1 = k)).map (·.2)
def putK (kvs : List (κ × V)) (k : κ) (v : V) : List (κ × V) :=
  if (kvs.any fun kv => decide (kv.1 = k)) = true then kvs.map (fun kv => if kv.1 = k then (kv.1, v) else kv) else kvs ++ [(k, v)]
theorem valV_nil {k : κ} : valV ([] : List (κ × V)) k = none := rfl
theorem valV_pos {p : κ × V} {r : List (κ × V)} {k : κ} (e : p.1 = k) : valV (p :: r) k = some p.2 := by simp [valV, List.find?_cons, e]
theorem valV_neg {p : κ × V} {r : List (κ × V)} {k : κ} (e : ¬ p.1 = k) : valV (p :: r) k = valV r k := by simp [valV, List.find?_cons, e]
theorem valV_any (k : κ) : ∀ kvs : List (κ × V), (kvs.any fun kv => decide (kv.1 = k)) = (valV kvs k).isSome
  | [] => rfl
  | p :: r => by
    rw [List.any_cons]
    by_cases e : p.1 = k
    · simp only [valV_pos e, decide_eq_true e, Bool.true_or, Option.isSome_some]
    · rw [valV_neg e, decide_eq_false e, Bool.false_or]; exact valV_any k r
theorem valV_map (k j : κ) (y : V) : ∀ kvs : List (κ × V), valV (kvs.map fun kv => if kv.1 = k then (kv.1, y) else kv) j = (valV kvs j).map fun x => if j = k then y else x
  | [] => rfl
  | p :: r => by
    have ih := valV_map k j y r
    rw [List.map_cons]
    by_cases h : p.1 = k
    · rw [if_pos h]
      by_cases e : p.1 = j
      · rw [valV_pos (p := (p.1, y)) e, valV_pos e, Option.map_some, if_pos (e.symm.trans h)]
      · rw [valV_neg (p := (p.1, y)) e, valV_neg e, ih]
    · rw [if_neg h]
      by_cases e : p.1 = j
      · rw [valV_pos (p := p) e, valV_pos e, Option.map_some, if_neg (fun z => h (e.trans z))]
      · rw [valV_neg (p := p) e, valV_neg e, ih]
theorem valV_snoc (k j : κ) (y : V) : ∀ kvs : List (κ × V), valV kvs k = none → valV (kvs ++ [(k, y)]) j = if j = k then some y else valV kvs j
  | [], _ => by
    by_cases e : k = j
    · rw [if_pos e.symm]; exact valV_pos (p := (k, y)) e
    · rw [if_neg (fun z => e z.symm)]; exact valV_neg (p := (k, y)) e
  | p :: r, hn => by
    rw [List.cons_append]
    have hk : ¬ p.1 = k := fun z => by rw [valV_pos z] at hn; cases hn
    rw [valV_neg hk] at hn
    have ih := valV_snoc k j y r hn
    by_cases e : p.1 = j
    · rw [valV_pos e, valV_pos e, if_neg (fun z => hk (e.trans z))]
    · rw [valV_neg e, valV_neg e, ih]
theorem valV_put (kvs : List (κ × V)) (k j : κ) (y : V) : valV (putK kvs k y) j = if j = k then some y else valV kvs j := by
  unfold putK
  by_cases a : (kvs.any fun kv => decide (kv.1 = k)) = true
  · rw [if_pos a, valV_map]
    rw [valV_any] at a
    by_cases e : j = k
    · obtain ⟨x, hx⟩ := Option.isSome_iff_exists.mp a
      rw [if_pos e, e, hx, Option.map_some, if_pos rfl]
    · rw [if_neg e]
      cases valV kvs j with
      | none => rfl
      | some x => rw [Option.map_some, if_neg e]
  · rw [if_neg a]
    refine valV_snoc k j y kvs ?_
    rw [valV_any] at a
    cases q : valV kvs k with
    | none => rfl
    | some x => rw [q] at a; exact (a rfl).elim
theorem length_putK (kvs : List (κ × V)) (k : κ) (v : V) : (putK kvs k v).length ≤ kvs.length + 1 := by
  unfold putK
  split
  · rw [List.length_map]; omega
  · rw [List.length_append, List.length_cons, List.length_nil]; omega
theorem putK_new {kvs : List (κ × V)} {k : κ} (v : V) (h : valV kvs k = none) : putK kvs k v = kvs ++ [(k, v)] := by
  unfold putK
  rw [valV_any, h]
  exact if_neg (by decide)

theorem RelO.isSome_eq {o : Option V} {u : Option Value} (r : RelO o u) : o.isSome = u.isSome := by
  cases o with
  | none => cases u with
    | none => rfl
    | some _ => exact (show False from r).elim
  | some _ => cases u with
    | none => exact (show False from r).elim
    | some _ => rfl
theorem RelO.getD {o : Option V} {u : Option Value} {d : V} {d' : Value} (r : RelO o u) (rd : RelV d d') : RelV (o.getD d) (u.getD d') := by
  cases o with
  | none => cases u with
    | none => exact rd
    | some _ => exact (show False from r).elim
  | some _ => cases u with
    | none => exact (show False from r).elim
    | some _ => exact r

theorem KV.val {kvs : List (κ × V)} {vs : List (κ × Value)} (r : KV kvs vs) (k : κ) : RelO (valV kvs k) (valueAt vs k) := by
  unfold KV at r
  induction r with
  | nil => exact True.intro
  | @cons p q ps qs h t ih =>
    obtain ⟨h1, h2⟩ := h
    by_cases e : p.1 = k
    · have e' : q.1 = k := h1.symm.trans e
      have b : valueAt (q :: qs) k = some q.2 := by simp [valueAt, List.find?_cons, e']
      rw [valV_pos e, b]; exact h2
    · have e' : ¬ q.1 = k := fun z => e (h1.trans z)
      have b : valueAt (q :: qs) k = valueAt qs k := by simp [valueAt, List.find?_cons, e']
      rw [valV_neg e, b]; exact ih
theorem KV.any {kvs : List (κ × V)} {vs : List (κ × Value)} (r : KV kvs vs) (k : κ) : (kvs.any fun kv => decide (kv.1 = k)) = vs.any fun kv => decide (kv.1 = k) := by
  unfold KV at r
  induction r with
  | nil => rfl
  | cons h t ih => rw [List.any_cons, List.any_cons, ih, h.1]
theorem KV.repl {kvs : List (κ × V)} {vs : List (κ × Value)} (r : KV kvs vs) (k : κ) {y : V} {u : Value} (ry : RelV y u) :
    KV (kvs.map fun kv => if kv.1 = k then (kv.1, y) else kv) (vs.map fun kv => if kv.1 = k then (kv.1, u) else kv) := by
  unfold KV at r ⊢
  induction r with
  | nil => exact .nil
  | @cons p q ps qs h t ih =>
    rw [List.map_cons, List.map_cons]
    refine .cons ?_ ih
    obtain ⟨h1, h2⟩ := h
    by_cases e : p.1 = k
    · rw [if_pos e, if_pos (h1.symm.trans e)]; exact ⟨h1, ry⟩
    · rw [if_neg e, if_neg (fun z => e (h1.trans z))]; exact ⟨h1, h2⟩
theorem KV.put {kvs : List (κ × V)} {vs : List (κ × Value)} (r : KV kvs vs) (k : κ) {y : V} {u : Value} (ry : RelV y u) : KV (putK kvs k y) (stored vs k u) := by
  unfold putK stored
  rw [r.any k]
  by_cases e : (vs.any fun kv => decide (kv.1 = k)) = true
  · rw [if_pos e, if_pos e]; exact r.repl k ry
  · rw [if_neg e, if_neg e]; exact Paired.snoc r ⟨rfl, ry⟩
theorem KV.keys {kvs : List (κ × V)} {vs : List (κ × Value)} (r : KV kvs vs) : kvs.map (·.1) = vs.map (·.1) := by
  unfold KV at r
  induction r with
  | nil => rfl
  | cons h t ih => rw [List.map_cons, List.map_cons, ih, h.1]
theorem KV.length {kvs : List (κ × V)} {vs : List (κ × Value)} (r : KV kvs vs) : kvs.length = vs.length := Paired.length r
end


/-! ### a tracked dict, its keys ints and texts or tuples of these -/
theorem kV_is {P : Program} {w : World} {k : Key} {u : Value} (r : RelV (kV k) u) : (mixKind P w).is k u = true := by
  cases k with
  | inl i => obtain ⟨t, e⟩ := (show ∃ t, u = Value.int i t from r); subst e; exact mixKind_int P w i t
  | inr x => obtain ⟨t, e⟩ := (show ∃ t, u = Value.str x t from r); subst e; exact mixKind_str P w x t
theorem items_are {P : Program} {w : World} : ∀ {ks : List Key} {us : List Value}, Vals (ks.map kV) us → ItemsAre (mixKind P w) ks us
  | [], _, r => by rw [List.map_nil] at r; cases r; exact .nil
  | k :: ks, _, r => by
    rw [List.map_cons] at r
    cases r with
    | cons h t => exact .cons (kV_is h) (items_are t)

abbrev KT (H : Hp) : List (List Key × V) → List (List Key × Addr × Value) → Prop := Paired fun p q => p.1 = q.1 ∧ H q.2.1 = some (.tup (p.1.map kV)) ∧ RelV p.2 q.2.2
theorem KT.val {H : Hp} {kvs : List (List Key × V)} {xs : List (List Key × Addr × Value)} (r : KT H kvs xs) (k : List Key) : RelO (valV kvs k) ((atKey xs k).map (·.2)) := by
  induction r with
  | nil => exact True.intro
  | @cons p q ps qs h t ih =>
    obtain ⟨h1, _, h2⟩ := h
    by_cases e : p.1 = k
    · have e' : q.1 = k := h1.symm.trans e
      have b : atKey (q :: qs) k = some q.2 := by simp [atKey, List.find?_cons, e']
      rw [valV_pos e, b]; exact h2
    · have e' : ¬ q.1 = k := fun z => e (h1.trans z)
      have b : atKey (q :: qs) k = atKey qs k := by simp [atKey, List.find?_cons, e']
      rw [valV_neg e, b]; exact ih
theorem KT.repl {H : Hp} {kvs : List (List Key × V)} {xs : List (List Key × Addr × Value)} (r : KT H kvs xs) (k : List Key) {y : V} {u : Value} (ry : RelV y u) :
    KT H (kvs.map fun kv => if kv.1 = k then (kv.1, y) else kv) (xs.map (putAt k u)) := by
  induction r with
  | nil => exact .nil
  | @cons p q ps qs h t ih =>
    rw [List.map_cons, List.map_cons]
    refine .cons ?_ ih
    obtain ⟨h1, h2, h3⟩ := h
    unfold putAt
    by_cases e : p.1 = k
    · rw [if_pos e, if_pos (h1.symm.trans e)]; exact ⟨h1, h2, ry⟩
    · rw [if_neg e, if_neg (fun z => e (h1.trans z))]; exact ⟨h1, h2, h3⟩
theorem KT.put {H : Hp} {kvs : List (List Key × V)} {xs : List (List Key × Addr × Value)} (r : KT H kvs xs) (k : List Key) {b : Addr} {y : V} {u : Value} (hb : H b = some (.tup (k.map kV))) (ry : RelV y u) :
    KT H (putK kvs k y) (storedH xs k b u) := by
  have e : (kvs.any fun kv => decide (kv.1 = k)) = (atKey xs k).isSome := by
    rw [valV_any, (r.val k).isSome_eq, Option.isSome_map]
  unfold putK storedH
  rw [e]
  by_cases q : (atKey xs k).isSome = true
  · rw [if_pos q, if_pos q]; exact r.repl k ry
  · rw [if_neg q, if_neg q]; exact Paired.snoc r ⟨rfl, hb, ry⟩
theorem KT.keeps {H H' : Hp} {kvs : List (List Key × V)} {xs : List (List Key × Addr × Value)} (r : KT H kvs xs) (ht : ∀ b ys, H b = some (.tup ys) → H' b = some (.tup ys)) : KT H' kvs xs :=
  Paired.mapP r fun _ _ z => ⟨z.1, ht _ _ z.2.1, z.2.2⟩

section
variable {P : Program} {w : World} {H : Hp} {h : Heap} {a : Addr}
theorem rd_of {u : HO} (ok : HOk P w H h) (e : Rd H a u) : ObjOk P w H h a u := e.ok ok
theorem dk_rd {kvs : List (Key × V)} (ok : HOk P w H h) (e : Rd H a (.dK kvs)) : kvs.length ≤ sizeLine ∧ (a == sysModules) = false ∧ ∃ vs, KV kvs vs ∧ h.DictOf (mixKind P w) a vs :=
  show ObjOk P w H h a (.dK kvs) from rd_of ok e
theorem dk_of {kvs : List (Key × V)} (ok : HOk P w H h) (e : H a = some (.dK kvs)) : kvs.length ≤ sizeLine ∧ (a == sysModules) = false ∧ ∃ vs, KV kvs vs ∧ h.DictOf (mixKind P w) a vs := dk_rd ok (.inl e)
theorem key_of {ks : List Key} (ok : HOk P w H h) (e : H a = some (.tup (ks.map kV))) : (tupleKind (mixKind P w)).is h ks a := by
  obtain ⟨_, its, r, o, h1, h2, n, h3⟩ := (show ObjOk P w H h a (.tup (ks.map kV)) from ok a _ e)
  exact ⟨o, its.toArray, n, h1, h2, h3, by simpa using items_are r⟩
theorem dt_rd {kvs : List (List Key × V)} (ok : HOk P w H h) (e : Rd H a (.dT kvs)) : kvs.length ≤ sizeLine ∧ (a == sysModules) = false ∧
    ∃ xs, KT H kvs xs ∧ h.DictOfH (tupleKind (mixKind P w)) a xs := by
  obtain ⟨z, y, xs, r, o, es, ep, h1, h2, h3, h4, h5⟩ := (show ObjOk P w H h a (.dT kvs) from rd_of ok e)
  refine ⟨z, y, xs, r, o, es, ep, h1, h2, h3, h4, fun x hx => ?_, h5⟩
  have all : ∀ {l : List (List Key × V)} {m : List (List Key × Addr × Value)}, KT H l m → ∀ x ∈ m, (tupleKind (mixKind P w)).is h x.1 x.2.1 := by
    intro l m q
    induction q with
    | nil => intro x hx; exact nomatch hx
    | @cons p q ps qs hq t ih =>
      intro x hx
      rcases List.mem_cons.mp hx with e | hx
      · subst e
        exact key_of ok (by rw [← hq.1]; exact hq.2.1)
      · exact ih x hx
  exact all r x hx
theorem dt_of {kvs : List (List Key × V)} (ok : HOk P w H h) (e : H a = some (.dT kvs)) : kvs.length ≤ sizeLine ∧ (a == sysModules) = false ∧
    ∃ xs, KT H kvs xs ∧ h.DictOfH (tupleKind (mixKind P w)) a xs := dt_rd ok (.inl e)
end

def DGet (H : Hp) (a : Addr) (y : V) (r : Option V) : Prop :=
  (∃ kvs k, Rd H a (.dK kvs) ∧ y = kV k ∧ r = valV kvs k) ∨ ∃ kvs k b, Rd H a (.dT kvs) ∧ y = .ref b ∧ H b = some (.tup (k.map kV)) ∧ r = valV kvs k
def DPut (H : Hp) (a : Addr) (y v : V) (H' : Hp) : Prop :=
  (∃ kvs k, H a = some (.dK kvs) ∧ y = kV k ∧ kvs.length < sizeLine ∧ H' = upd H a (.dK (putK kvs k v))) ∨
  ∃ kvs k b, H a = some (.dT kvs) ∧ y = .ref b ∧ H b = some (.tup (k.map kV)) ∧ kvs.length < sizeLine ∧ H' = upd H a (.dT (putK kvs k v))
theorem DGet.k {H : Hp} {a : Addr} {kvs : List (Key × V)} {k : Key} (e : H a = some (.dK kvs)) : DGet H a (kV k) (valV kvs k) := .inl ⟨kvs, k, .inl e, rfl, rfl⟩
theorem DGet.t {H : Hp} {a b : Addr} {kvs : List (List Key × V)} {k : List Key} (e : H a = some (.dT kvs)) (eb : H b = some (.tup (k.map kV))) : DGet H a (.ref b) (valV kvs k) := .inr ⟨kvs, k, b, .inl e, rfl, eb, rfl⟩
theorem DPut.k {H : Hp} {a : Addr} {kvs : List (Key × V)} {k : Key} {v : V} (e : H a = some (.dK kvs)) (hl : kvs.length < sizeLine) : DPut H a (kV k) v (upd H a (.dK (putK kvs k v))) := .inl ⟨kvs, k, e, rfl, hl, rfl⟩
theorem DPut.t {H : Hp} {a b : Addr} {kvs : List (List Key × V)} {k : List Key} {v : V} (e : H a = some (.dT kvs)) (eb : H b = some (.tup (k.map kV))) (hl : kvs.length < sizeLine) :
    DPut H a (.ref b) v (upd H a (.dT (putK kvs k v))) := .inr ⟨kvs, k, b, e, rfl, eb, hl, rfl⟩


section
variable {X : Cx} {pins : List (Addr × Obj)} {σ : St} {H : Hp} {s : Shared} {a : Addr} {y v : V} {u r : Value} {o : Option V} {A : Around} {E : Value → Shared → Prop}

theorem Inv.big (I : Inv X pins σ H s) : sysModules < s.heap.objs.size := by
  have h : mainGlobals < s.heap.objs.size := (I.mod.glob.keeps I.bk).lt
  exact Nat.lt_trans (by decide) h

theorem d_getItem {Q : Value → Shared → Prop} (hu : A.units + 1 < cLine) (I : Inv X pins σ H s) (g : DGet H a y (some v)) (ry : RelV y u) (h : ∀ w' s', Inv X pins σ H s' → RelV v w' → Q w' s') :
    wpAny (model X.prog X.w) A (getItem (.ref a) u) Q E s := by
  rcases g with ⟨kvs, k, e, ey, l⟩ | ⟨kvs, k, b, e, ey, eb, l⟩
  · subst ey
    obtain ⟨z, hd, vs, rel, dd⟩ := dk_rd I.hok e
    obtain ⟨w', hw, rw'⟩ := RelO.some_of (v := v) (o := valueAt vs k) (by rw [l]; exact rel.val k)
    exact wpAny_getItem_of (kV_is ry) dd.mapOf hw (h w' _ (I.tok _) rw')
  · subst ey
    cases (show u = Value.ref b from ry)
    obtain ⟨z, hd, xs, rel, dd⟩ := dt_rd I.hok e
    obtain ⟨w', hw, rw'⟩ := RelO.some_of (v := v) (o := (atKey xs k).map (·.2)) (by rw [l]; exact rel.val k)
    obtain ⟨p, hp, hp2⟩ := Option.map_eq_some_iff.mp hw
    refine wpAny_getItem_heap (tupleKind_room_in1 hu) (key_of I.hok eb) dd hp ?_
    rw [hp2]
    exact h w' _ (I.tok _) rw'
theorem d_in {Q : Value → Shared → Prop} (hu : A.units + 1 < cLine) (I : Inv X pins σ H s) (g : DGet H a y o) (ry : RelV y u) (h : ∀ s', Inv X pins σ H s' → Q (.bool o.isSome) s') :
    wpAny (model X.prog X.w) A (compareOp .In u (.ref a)) Q E s := by
  rcases g with ⟨kvs, k, e, ey, l⟩ | ⟨kvs, k, b, e, ey, eb, l⟩
  · subst ey
    obtain ⟨z, hd, vs, rel, dd⟩ := dk_rd I.hok e
    refine wpAny_in_of (kV_is ry) hd dd.mapOf ?_
    rw [← (rel.val k).isSome_eq, ← l]
    exact h _ (I.tok _)
  · subst ey
    cases (show u = Value.ref b from ry)
    obtain ⟨z, hd, xs, rel, dd⟩ := dt_rd I.hok e
    refine wpAny_in_heap (tupleKind_room_in1 hu) (key_of I.hok eb) hd dd ?_
    have q := (rel.val k).isSome_eq
    rw [Option.isSome_map] at q
    rw [← q, ← l]
    exact h _ (I.tok _)
theorem d_notIn {Q : Value → Shared → Prop} (hu : A.units + 1 < cLine) (I : Inv X pins σ H s) (g : DGet H a y o) (ry : RelV y u) (h : ∀ s', Inv X pins σ H s' → Q (.bool (!o.isSome)) s') :
    wpAny (model X.prog X.w) A (compareOp .NotIn u (.ref a)) Q E s := by
  rcases g with ⟨kvs, k, e, ey, l⟩ | ⟨kvs, k, b, e, ey, eb, l⟩
  · subst ey
    obtain ⟨z, hd, vs, rel, dd⟩ := dk_rd I.hok e
    refine wpAny_notIn_of (kV_is ry) hd dd.mapOf ?_
    rw [← (rel.val k).isSome_eq, ← l]
    exact h _ (I.tok _)
  · subst ey
    cases (show u = Value.ref b from ry)
    obtain ⟨z, hd, xs, rel, dd⟩ := dt_rd I.hok e
    refine wpAny_notIn_heap (tupleKind_room_in1 hu) (key_of I.hok eb) hd dd ?_
    have q := (rel.val k).isSome_eq
    rw [Option.isSome_map] at q
    rw [← q, ← l]
    exact h _ (I.tok _)
theorem d_write {h' : Heap} {t' : Nat} {ob : HO} (I : Inv X pins σ H s) (mu : Mut (H a)) (hs : Heap.SameBut a s.heap h') (he : ∃ q, h'.get? a = some q) (new : ObjOk X.prog X.w (upd H a ob) h' a ob) :
    Inv X pins σ (upd H a ob) { s with heap := h', toks := t' } :=
  I.write (x := a) (e := a) mu (.inl rfl) (fun b q hb z => (hs.2 b hb).trans z) he new
theorem dk_new {P : Program} {w : World} {H' : Hp} {h' : Heap} {kvs : List (Key × V)} {vs : List (Key × Value)} (z : kvs.length ≤ sizeLine) (hd : (a == sysModules) = false) (rel : KV kvs vs) (dd : h'.DictOf (mixKind P w) a vs) :
    ObjOk P w H' h' a (.dK kvs) := ⟨z, hd, vs, rel, dd⟩
theorem d_setItem {H' : Hp} {Q : Unit → Shared → Prop} (hu : A.units + 1 < cLine) (I : Inv X pins σ H s) (g : DPut H a y v H') (ry : RelV y u) (rv : RelV v r) (h : ∀ s', Inv X pins σ H' s' → Q () s') :
    wpAny (model X.prog X.w) A (setItem (.ref a) u r) Q E s := by
  rcases g with ⟨kvs, k, e, ey, l, eH⟩ | ⟨kvs, k, b, e, ey, eb, l, eH⟩
  · subst ey eH
    obtain ⟨z, hd, vs, rel, dd⟩ := dk_of I.hok e
    have hz : vs.length ≤ sizeLine := by rw [← rel.length]; exact z
    have hl : (putK kvs k v).length ≤ sizeLine := by have := length_putK kvs k v; omega
    refine wpAny_setItem_pairs (hsz := hz) (kV_is ry) dd fun h' dd' hs => h _ ?_
    have he : ∃ q, h'.get? a = some q := let ⟨q, _, _, hq, _⟩ := dd'; ⟨q, hq⟩
    exact d_write I (by rw [e]; exact True.intro) hs he (dk_new hl hd (rel.put k rv) dd')
  · subst ey eH
    cases (show u = Value.ref b from ry)
    obtain ⟨z, hd, xs, rel, dd⟩ := dt_of I.hok e
    have hz : xs.length ≤ sizeLine := by rw [← Paired.length rel]; exact z
    have hl : (putK kvs k v).length ≤ sizeLine := by have := length_putK kvs k v; omega
    refine wpAny_setItem_heap (hsz := hz) (tupleKind_room_in1 hu) (key_of I.hok eb) dd fun h' dd' hs => h _ ?_
    obtain ⟨q, es, ep, hq, h2, h3, h4, _, h5⟩ := dd'
    refine d_write I (by rw [e]; exact True.intro) hs ⟨q, hq⟩ ⟨hl, hd, _, (rel.put k eb rv).keeps fun c ys ec => ?_, q, es, ep, hq, h2, h3, h4, h5⟩
    rw [upd_ne (ne_of ec e (fun z => nomatch z))]
    exact ec
end

section
variable {X : Cx} {pins : List (Addr × Obj)} {σ : St} {H : Hp} {s : Shared} {a : Addr} {kvs : List (Key × V)} {k : Key} {u : Value} {A : Around} {E : Value → Shared → Prop}
end


/-! ### readings and rules -/
def NoSl (i : Expr) : Prop := ∀ ov iv, subscripted i false ov iv = operate [ov, iv] (getItem ov iv)
theorem subD_of {prog : Program} {w : World} {A : Around} {E : Value → Shared → Prop} {s : Shared} {env : Env} {value slice : Expr} {pos : Pos} {T id : String} {Q : Value → Shared → Prop}
    (hl : typeLookup (.type T) "__getitem__" = pure (some (.builtin id))) (hs : NoSl slice)
    (h : wpAny (model prog w) A (eval value env) (fun o s₁ => wpAny (model prog w) A (eval slice env) (fun i s₂ => s₂.TypeIs o T ∧ wpAny (model prog w) A (getItem o i) Q E s₂) E s₁) E s) :
    wpAny (model prog w) A (eval (.Subscript value slice pos) env) Q E s := by
  refine Subscript_ (wpAny_mono h (fun o s₁ h₁ => wpAny_mono h₁ (fun i s₂ h₂ => ?_) fun _ _ x => x) fun _ _ x => x)
  obtain ⟨hT, h₂⟩ := h₂
  unfold subscriptTail
  refine wpAny_bind ?_
  rw [getitemInPython_of_ne hT.not_modules]
  refine wpAny_bind (wpAny_specialOf hT hl ?_)
  have fin : wpAny (model prog w) A (subscripted slice false o i) (fun r s₃ => wpAny (model prog w) A (letTemporaryGo value o r >>= fun _ => pure r) Q E s₃) E s₂ := by
    rw [hs o i]
    exact wpAny_operating (wpAny_mono h₂ (fun r s₃ h₃ => wpAny_bind (wpAny_letTemporaryGo (wpAny_pure h₃))) fun _ _ x => x)
  first
    | exact wpAny_pure (wpAny_bind fin)
    | exact wpAny_bind (wpAny_pure (wpAny_bind fin))
    | exact wpAny_bind fin

theorem dict_typeIs {X : Cx} {pins : List (Addr × Obj)} {σ : St} {H : Hp} {s : Shared} {a : Addr} {y : V} {o : Option V} (I : Inv X pins σ H s) (g : DGet H a y o) : s.TypeIs (.ref a) "dict" := by
  rcases g with ⟨kvs, k, e, _, _⟩ | ⟨kvs, k, b, e, _, _, _⟩
  · obtain ⟨_, _, vs, _, dd⟩ := dk_rd I.hok e
    exact dd.typeIs
  · obtain ⟨_, _, xs, _, dd⟩ := dt_rd I.hok e
    exact dd.typeIs
def tDGet (td ty : TE) : TE := fun σ H Q => td σ H fun x H1 => ty σ H1 fun y H2 => ∃ a v, x = .ref a ∧ DGet H2 a y (some v) ∧ Q v H2
def tDIn (ty td : TE) : TE := fun σ H Q => ty σ H fun y H1 => td σ H1 fun x H2 => ∃ a o, x = .ref a ∧ DGet H2 a y o ∧ Q (.bl o.isSome) H2
def tDNotIn (ty td : TE) : TE := fun σ H Q => ty σ H fun y H1 => td σ H1 fun x H2 => ∃ a o, x = .ref a ∧ DGet H2 a y o ∧ Q (.bl (!o.isSome)) H2
def sDPut (td ty tv : TE) : TS := fun D σ H => tv σ H fun v H1 => td σ H1 fun x H2 => ty σ H2 fun y H3 => ∃ a H4, x = .ref a ∧ DPut H3 a y v H4 ∧ D.nx σ H4
section
variable {X : Cx} {o i e value : Expr} {pos pos' tpos : Pos} {td ty tv : TE}
theorem pe_dget (hu : X.A.units + 1 < cLine) (ho : PE X o td) (hi : PE X i ty) (hs : NoSl i) : PE X (.Subscript o i pos) (tDGet td ty) := by
  intro pins s σ H Q I h
  refine subD_of PySem.F.slot_dict_getitem.lookup hs (thn (ho pins s σ H _ I h) fun u s1 ⟨x, H1, I1, rx, q1⟩ => thn (hi pins s1 σ H1 _ I1 q1) fun iv s2 ⟨y, H2, I2, ry, a, v, ex, g, q2⟩ => ?_)
  subst ex
  obtain rfl : u = Value.ref a := rx
  exact ⟨dict_typeIs I2 g, d_getItem hu I2 g ry fun w' s3 I3 rw' => ⟨v, H2, I3, rw', q2⟩⟩
theorem pc_din (hu : X.A.units + 1 < cLine) (hi : PE X i ty) (ho : PE X o td) : PC X .In i o (tDIn ty td) := by
  intro pins s σ H Q I h
  refine thn (hi pins s σ H _ I h) fun iv s1 ⟨y, H1, I1, ry, q1⟩ => thn (ho pins s1 σ H1 _ I1 q1) fun u s2 ⟨x, H2, I2, rx, a, ov, ex, g, q2⟩ => ?_
  subst ex
  obtain rfl : u = Value.ref a := rx
  exact d_in hu I2 g ry fun s3 I3 => ⟨.bl ov.isSome, H2, I3, rfl, q2⟩
theorem pc_dnotin (hu : X.A.units + 1 < cLine) (hi : PE X i ty) (ho : PE X o td) : PC X .NotIn i o (tDNotIn ty td) := by
  intro pins s σ H Q I h
  refine thn (hi pins s σ H _ I h) fun iv s1 ⟨y, H1, I1, ry, q1⟩ => thn (ho pins s1 σ H1 _ I1 q1) fun u s2 ⟨x, H2, I2, rx, a, ov, ex, g, q2⟩ => ?_
  subst ex
  obtain rfl : u = Value.ref a := rx
  exact d_notIn hu I2 g ry fun s3 I3 => ⟨.bl (!ov.isSome), H2, I3, rfl, q2⟩
theorem ps_dput (hu : X.A.units + 1 < cLine) (ho : PE X o td) (hi : PE X i ty) (hv : PE X value tv) (hs : swapsWith value (some (.Subscript o i pos')) pos.line X.env = pure false) :
    PS X (.Assign [.Subscript o i pos'] value pos) (sDPut td ty tv) := by
  intro pins s σ H D I h
  refine wpAny_Assign_Subscript (thn (hv pins s σ H _ I h) fun r s1 ⟨v, H1, I1, rv, q1⟩ => thn (ho pins s1 σ H1 _ I1 q1) fun u s2 ⟨x, H2, I2, rx, q2⟩ => thn (hi pins s2 σ H2 _ I2 q2) fun iv s3 ⟨y, H3, I3, ry, a, H4, ex, g, q3⟩ => ?_) hs
  subst ex
  obtain rfl : u = Value.ref a := rx
  exact d_setItem hu I3 g ry rv fun s4 I4 => ⟨σ, H4, I4, q3⟩
end


/-! ### displays -/
theorem dk_empty {P : Program} {w : World} {H : Hp} (h : Heap) (hb : sysModules < h.objs.size) : ObjOk P w H (h.push { cls := .type "dict", data := .dict #[] }) h.objs.size (.dK []) :=
  ⟨Nat.zero_le _, beq_eq_false_iff_ne.mpr (Ne.symm (Nat.ne_of_lt hb)), [], .nil, Heap.DictOf.new h⟩
theorem dt_empty {P : Program} {w : World} {H : Hp} (h : Heap) (hb : sysModules < h.objs.size) : ObjOk P w H (h.push { cls := .type "dict", data := .dict #[] }) h.objs.size (.dT []) :=
  ⟨Nat.zero_le _, beq_eq_false_iff_ne.mpr (Ne.symm (Nat.ne_of_lt hb)), [], .nil, _, #[], 0, Heap.get?_push_size _ rfl, ⟨rfl, rfl, rfl⟩, rfl, rfl, List.nodup_nil⟩
def tDNewK : TE := fun _ H Q => ∀ p, H p = none → Q (.ref p) (upd H p (.dK []))
section
variable {X : Cx} {pos : Pos}
theorem pe_dnewK : PE X (.Dict [] [] pos) tDNewK := fun pins s σ H Q I h =>
  wpAny_Dict_empty ⟨.ref s.heap.objs.size, _, I.laid (a := s.heap.objs.size) (o := .dK []) (t' := s.toks) (fun _ _ q => Heap.get?_push_of_some _ q) (Nat.le_refl _) (dk_empty s.heap I.big), rfl, h _ (I.hok.fresh (Nat.le_refl _))⟩
end

def tPairs : List (TE × TE) → St → Hp → (List (V × V) → Hp → Prop) → Prop
  | [], _, H, Q => Q [] H
  | (tk, tv) :: r, σ, H, Q => tk σ H fun x H1 => tv σ H1 fun y H2 => tPairs r σ H2 fun ps H3 => Q ((x, y) :: ps) H3
abbrev VV : List (V × V) → List (Value × Value) → Prop := Paired fun p q => RelV p.1 q.1 ∧ RelV p.2 q.2
def PPs (X : Cx) (pos : Pos) (keys : List (Option Expr)) (values : List Expr) (trs : List (TE × TE)) : Prop :=
  ∀ (pins : List (Addr × Obj)) (s : Shared) (σ : St) (H : Hp) (Q : List (V × V) → Hp → Prop), Inv X pins σ H s → tPairs trs σ H Q →
    wpAny (model X.prog X.w) X.A (evalPairs (pairTrees keys values X.env pos)) (fun vs s' => ∃ ps H', Inv X pins σ H' s' ∧ VV ps vs ∧ Q ps H') X.xe s
theorem pps_nil {X : Cx} {pos : Pos} : PPs X pos [] [] [] := fun pins s σ H Q I h => pairTrees_nil_walk ⟨[], H, I, .nil, h⟩
theorem pps_cons {X : Cx} {pos : Pos} {k v : Expr} {ks : List (Option Expr)} {vs : List Expr} {tk tv : TE} {trs : List (TE × TE)} (hk : PE X k tk) (hv : PE X v tv) (hr : PPs X pos ks vs trs) :
    PPs X pos (some k :: ks) (v :: vs) ((tk, tv) :: trs) := fun pins s σ H Q I h =>
  pairTrees_cons_walk (thn (hk pins s σ H _ I h) fun u s1 ⟨x, H1, I1, rx, q1⟩ => thn (hv pins s1 σ H1 _ I1 q1) fun w2 s2 ⟨y, H2, I2, ry, q2⟩ =>
    thn (hr pins s2 σ H2 _ I2 q2) fun ws s3 ⟨ps, H3, I3, rel, q3⟩ => ⟨(x, y) :: ps, H3, I3, .cons ⟨rx, ry⟩ rel, q3⟩)

/-! ### methods -/
structure M1 (X : Cx) (o : Expr) (m : Str) (apos : Pos) (e : Expr) (cpos : Pos) : Prop where
  base : attributeBase o m X.env (eval o X.env) = eval o X.env
  few : ((backTo cpos (starEach [e] X.env)).all (fun x => !x.1) && (backToKw cpos (keywordEach [] X.env)).all (fun x => x.1.isSome)
    && decide (([e] : List Expr).length + ([] : List Keyword).length + (if ([] : List Keyword).isEmpty then 0 else 1) < 30)) = true
  line : (apos.endLine == cpos.line) = true
  trees : backTo cpos (starEach [e] X.env) = [(false, eval e X.env)]
def IsD (H : Hp) (a : Addr) : Prop := (∃ kvs, Rd H a (.dK kvs)) ∨ ∃ kvs, Rd H a (.dT kvs)
theorem isD_at {X : Cx} {pins : List (Addr × Obj)} {σ : St} {H : Hp} {s : Shared} {a : Addr} (I : Inv X pins σ H s) (d : IsD H a) :
    s.TypeIs (.ref a) "dict" ∧ (∀ b, Value.ref a = .ref b → ∃ ob, s.heap.get? b = some ob ∧ ob.dict = none) ∧ (a == sysModules) = false := by
  rcases d with ⟨kvs, e⟩ | ⟨kvs, e⟩
  · obtain ⟨_, hd, vs, _, dd⟩ := dk_rd I.hok e
    refine ⟨dd.typeIs, fun b q => ?_, hd⟩
    cases q
    obtain ⟨ob, _, _, h1, h2, _⟩ := dd
    exact ⟨ob, h1, h2.2.1⟩
  · obtain ⟨_, hd, xs, _, dd⟩ := dt_rd I.hok e
    refine ⟨dd.typeIs, fun b q => ?_, hd⟩
    cases q
    obtain ⟨ob, _, _, h1, h2, _⟩ := dd
    exact ⟨ob, h1, h2.2.1⟩

section
variable {X : Cx} {pins : List (Addr × Obj)} {σ : St} {H : Hp} {s : Shared} {a : Addr} {y d : V} {u r : Value} {o : Option V} {A : Around} {E : Value → Shared → Prop}
theorem d_get1 {Q : Value → Shared → Prop} (hu : A.units + 1 < cLine) (I : Inv X pins σ H s) (g : DGet H a y o) (ry : RelV y u) (h : ∀ w' s', Inv X pins σ H s' → RelV (o.getD .non) w' → Q w' s') :
    wpAny (model X.prog X.w) A (call (.builtin "dict.get") [.ref a, u]) Q E s := by
  rcases g with ⟨kvs, k, e, ey, l⟩ | ⟨kvs, k, b, e, ey, eb, l⟩
  · subst ey
    obtain ⟨z, hd, vs, rel, dd⟩ := dk_rd I.hok e
    refine call_meetsIn PySem.F.slot_dict_get dd.typeIs PySem.F.entry_dict_get (PySem.F.args_dict_get_2 _ _) (meets_dict_get (mixKind X.prog X.w) a (kV_is ry) hd) ⟨_, dd.mapOf, h _ _ (I.tok _) ?_⟩
    rw [l]
    exact (rel.val k).getD rfl
  · subst ey
    cases (show u = Value.ref b from ry)
    obtain ⟨z, hd, xs, rel, dd⟩ := dt_rd I.hok e
    refine call_meetsIn PySem.F.slot_dict_get dd.typeIs PySem.F.entry_dict_get (PySem.F.args_dict_get_2 _ _) (meetsH_dict_get (tupleKind (mixKind X.prog X.w)) a b hd) ⟨tupleKind_room_in1 hu, k, xs, key_of I.hok eb, dd, h _ _ (I.tok _) ?_⟩
    rw [l]
    exact (rel.val k).getD rfl
end

def tDGet1 (td ty : TE) : TE := fun σ H Q => td σ H fun x H1 => ∃ a, x = .ref a ∧ IsD H1 a ∧ ty σ H1 fun y H2 => ∃ o, DGet H2 a y o ∧ Q (o.getD .non) H2
section
variable {X : Cx} {o e f : Expr} {apos cpos : Pos} {td ty tx : TE}
theorem pe_dget1 (hu : X.A.units + 1 < cLine) (ho : PE X o td) (he : PE X e ty) (m : M1 X o "get" apos e cpos) : PE X (.Call (.Attribute o "get" apos) [e] [] cpos) (tDGet1 td ty) := by
  intro pins s σ H Q I h
  refine wpAny_Call_method m.base m.few m.line PySem.F.plainAttrs_dict PySem.F.slot_dict_get PySem.F.type_dict_get (thn (ho pins s σ H _ I h) fun u s1 ⟨x, H1, I1, rx, a, ex, d, q1⟩ => ?_)
  subst ex
  obtain rfl : u = Value.ref a := rx
  obtain ⟨t1, t2, _⟩ := isD_at I1 d
  refine ⟨t1, t2, ?_⟩
  rw [m.trees]
  refine Calls.callWith_builtin rfl (Calls.evalArgs_plain (Calls.spliced_cons (thn (he pins s1 σ H1 _ I1 q1) fun iv s2 ⟨y, H2, I2, ry, ov, g, q2⟩ => Calls.spliced_nil ?_)))
  exact d_get1 hu I2 g ry fun w' s3 I3 rw' => ⟨_, H2, I3, rw', q2⟩
end

end L2

set_option maxHeartbeats 4000000
/-! enumerate of a list -/
namespace L2
open PySem PySem.Spec PyProof.Rows
def Ite (K : PySem.W.Frag) (l : Addr) : It :=
  ⟨fun i H => ∃ xs x, SqL K H l xs ∧ xs[i]? = some x,
   fun i H v H' => ∃ T x, v = .ref T ∧ H T = none ∧ H' = upd H T (.tup [.int i, x]) ∧ ∀ xs, SqL K H l xs → xs[i]? = some x,
   fun i H => ∃ xs, SqL K H l xs ∧ xs.length ≤ i⟩
theorem turn_enum {P : Program} {w : World} {K : PySem.W.Frag} {es : List Expr} {kk : Nat} {tp : Pos} {e it l : Addr} (ne : e ≠ it) (nl : l ≠ e) :
    Turn P w K (.Tuple es kk tp) (Ite K l) [e, it] e (fun i h => (∃ old, IsEnum h e it i old) ∧ h.IsListIter it l i) where
  mem := by simp
  obj := fun i h st b hb => by
    obtain ⟨⟨old, a1⟩, o, a2, _, a3⟩ := st
    simp only [List.mem_cons, List.not_mem_nil, or_false] at hb
    rcases hb with rfl | rfl
    · exact ⟨_, a1, fun v q => by have q' : Data.fields _ = Data.cell v := q; cases q'⟩
    · exact ⟨o, a2, fun v z => by rw [a3] at z; cases z⟩
  keep := fun i h h' st k => by
    obtain ⟨⟨old, a1⟩, a2⟩ := st
    exact ⟨⟨old, k e (by simp) _ a1⟩, a2.at fun o q => k it (by simp) o q⟩
  item := by
    intro X hP hw hK hc i pins s σ H E I hf st hg
    subst hP hw hK
    obtain ⟨xs, x, q1, hx⟩ := hg
    obtain ⟨⟨old, a1⟩, a2⟩ := st
    obtain ⟨its, rv, p, hz⟩ := I.list q1
    obtain ⟨vx, hvx, rx⟩ := rv.get hx
    refine wpAny_pyNext_enum_item a1 a2 p.isList (x := vx) (by simpa using hvx) ne fun h' b1 b2 b3 b4 b5 => ?_
    refine ⟨_, rfl, wpAny_letOwnedTupleGo_enum b1 fun h2 c1 sb => ?_⟩
    have zT : s.heap.objs.size ≠ e := Nat.ne_of_gt (Heap.lt_size a1)
    have k2 : ∀ b o, b ∉ [e, it] → s.heap.get? b = some o → h2.get? b = some o := fun b o hb q => by
      simp only [List.mem_cons, List.not_mem_nil, or_false, not_or] at hb
      exact sb.extBut b o hb.1 (b5 b o hb.1 hb.2 q)
    have hT : IsTup h2 s.heap.objs.size ([.int i s.toks, vx] : List Value).toArray := ⟨_, sb.extBut _ _ zT b3, rfl, _, rfl⟩
    refine ⟨.ref s.heap.objs.size, upd H s.heap.objs.size (.tup [.int i, x]), I.turnedT (t' := s.toks + 1) k2 hf (Nat.le_refl _) (.cons ⟨_, rfl⟩ (.cons rx .nil)) (by show 2 ≤ sizeLine; decide) hT, rfl, ⟨_, x, rfl, I.hok.fresh (Nat.le_refl _), rfl, fun xs' h1 => ?_⟩, ⟨⟨vx, ?_⟩, ?_⟩, fun b hb => ?_⟩
    · rw [I.list_inj h1 q1]; exact hx
    · exact_mod_cast c1
    · exact b2.at fun o q => sb.extBut _ _ ne.symm q
    · have hlt : b < s.heap.objs.size := by
        simp only [List.mem_cons, List.not_mem_nil, or_false] at hb
        rcases hb with rfl | rfl
        · exact Heap.lt_size a1
        · obtain ⟨o, q, _⟩ := a2; exact Heap.lt_size q
      rw [upd_ne (Nat.ne_of_lt hlt)]
      exact (hf b hb).1
  done := by
    intro X hP hw hK hc i pins s σ H E I hf st hg
    subst hP hw hK
    obtain ⟨xs, q1, hend⟩ := hg
    obtain ⟨⟨old, a1⟩, a2⟩ := st
    obtain ⟨its, rv, p, hz⟩ := I.list q1
    have e1 := rv.length
    refine wpAny_pyNext_enum_end (I.ok.hd hc) a1 a2 p.isList (by simp; omega) fun h' eb => ⟨rfl, I.turnedL (t' := s.toks) (ch := [e, it]) (fun b o hb q => ?_) hf⟩
    simp only [List.mem_cons, List.not_mem_nil, or_false, not_or] at hb
    exact eb b o hb.2 q
  self := fun _ _ _ _ _ st h => by
    obtain ⟨⟨old, a1⟩, _⟩ := st
    exact wpAny_pyIter_enum a1 h
section
variable {X : Cx} {es : List Expr} {kk : Nat} {tp : Pos}
def iEnum (K : PySem.W.Frag) (ta : TA) : TI := fun σ H R => ta σ H fun vs H1 => ∃ l xs, vs = [.ref l] ∧ SqL K H1 l xs ∧ R (Ite K l) H1
theorem pi_enum {a : Expr} {ta : TA} {p pos : Pos} (hg : Gl X "enumerate") (hm : X.mg "enumerate" = none) (ha : PA X [a] ta) (hs : starEach [a] X.env = [(false, eval a X.env)] := by rfl) :
    PI X (.Tuple es kk tp) (.Call (.Name "enumerate" p) [a] [] pos) (iEnum X.K ta) := by
  intro pins s σ H R I h
  refine Call_ (ld_blt I hg hm boot_enumerate (PyProof.Rows.callWith_type1 (thn (ha pos pins s σ H _ I h) fun us s1 ⟨vs, H1, I1, r1, q1⟩ => ?_) (by rw [hs]; rfl) (by rfl)))
  obtain ⟨l, xs, e, h1, q⟩ := q1
  subst e
  cases r1 with
  | cons r rr =>
    cases rr
    cases r
    obtain ⟨its, rv, pl, hz⟩ := I1.list h1
    refine call_enumerate_list pl.isList fun h' z1 z2 z3 zk => ?_
    have I2 : Inv X pins σ H1 { s1 with heap := h' } := I1.kept (t' := s1.toks) zk
    have lt1 : l < s1.heap.objs.size := by obtain ⟨o, q, _⟩ := pl.isList; exact Heap.lt_size q
    refine wpAny_pyIter_enum z1 ⟨_, [s1.heap.objs.size + 1, s1.heap.objs.size], _, _, H1, rfl, I2, turn_enum (Nat.succ_ne_self _) (Nat.ne_of_lt (Nat.lt_succ_of_lt lt1)), ⟨⟨_, z1⟩, z2⟩, fun b hb => ?_, q⟩
    have hge : s1.heap.objs.size ≤ b := by
      simp only [List.mem_cons, List.not_mem_nil, or_false] at hb
      rcases hb with rfl | rfl
      · exact Nat.le_succ _
      · exact Nat.le_refl _
    exact I1.fpOk hge (I1.hok.fresh hge)
end
theorem for_enum {K : PySem.W.Frag} {a : Addr} {xs : List V} {g : TG} {tb : TS} {D : Ends} {σ : St} {H : Hp} (Pv : Nat → St → Hp → Prop) (h0 : Pv 0 σ H) (hl : ∀ i σ H, i ≤ xs.length → Pv i σ H → SqL K H a xs)
    (hs : ∀ i x σ H T, xs[i]? = some x → Pv i σ H → H T = none → g (.ref T) σ (upd H T (.tup [.int i, x])) fun σ2 H2 => tb { D with nx := Pv (i + 1), ct := Pv (i + 1), bk := D.nx } σ2 H2) (hd : ∀ σ H, Pv xs.length σ H → D.nx σ H) :
    ∃ W : Nat → Nat → St → Hp → Prop, (∃ m, W 0 m σ H) ∧ ∀ i m σ H, W i m σ H →
      ((Ite K a).stop i H ∧ D.nx σ H) ∨ ((Ite K a).go i H ∧ ∃ N : St → Hp → Prop, (∀ σ' H', N σ' H' → ∃ m', m' < m ∧ W (i + 1) m' σ' H') ∧ ∀ x H', (Ite K a).yld i H x H' → g x σ H' fun σ2 H2 => tb { D with nx := N, ct := N, bk := D.nx } σ2 H2) := by
  refine ⟨fun i m σ H => m = xs.length - i ∧ i ≤ xs.length ∧ Pv i σ H, ⟨xs.length, by simp, Nat.zero_le _, h0⟩, ?_⟩
  rintro i m σ H ⟨rfl, hi, p⟩
  have q := hl i σ H hi p
  by_cases hlt : i < xs.length
  · refine .inr ⟨⟨xs, xs[i], q, by simp [hlt]⟩, Pv (i + 1), fun σ' H' p' => ⟨xs.length - (i + 1), by omega, rfl, hlt, p'⟩, fun v H' y => ?_⟩
    obtain ⟨T, x, rfl, hT, rfl, y⟩ := y
    exact hs i x σ H T (y xs q) p hT
  · have e : i = xs.length := by omega
    subst e
    exact .inl ⟨⟨xs, q, Nat.le_refl _⟩, hd σ H p⟩
end L2

set_option maxHeartbeats 4000000
/-! sorted(d) of a dict whose keys are ints -/
namespace L2
open PySem PySem.Spec PyProof.Rows
theorem intsBy : ∀ {us : List Value} {ks : List Int}, us.length = ks.length → (∀ (j : Nat) u, us[j]? = some u → ∃ (k : Int) (t : Tok), ks[j]? = some k ∧ u = Value.int k t) → IntsAre us ks
  | [], [], _, _ => .nil
  | u :: us, k :: ks, hl, h => by
    obtain ⟨k', t, e, rfl⟩ := h 0 u rfl
    cases e
    exact .cons _ _ (intsBy (Nat.succ.inj hl) fun j u q => h (j + 1) u q)
def Gath (s : Shared) (P : Nat → Value → Prop) (n : Nat) (q : Result) (s' : Shared) : Prop := q = .ok (.ret (.ref s.heap.objs.size)) ∧ ∃ h' tk, s' = { s with heap := h', toks := tk } ∧ (∀ b o, s.heap.get? b = some o → h'.get? b = some o) ∧
  ∃ acc c, ItemsOf P acc n ∧ h'.get? s.heap.objs.size = some { cls := .type "list", dict := none, data := .seq acc c, slots := #[] }
theorem gather {prog : Program} {w : World} {A : Around} {E : Value → Shared → Prop} {s : Shared} {T : String} {r d : Addr} {n : Nat} {P : Nat → Value → Prop} {OK : Heap → Prop} {R : List Value → Shared → Prop} (K : PySem.W.KdlSrc prog w T r d n P OK) (hh : A.handled = none) (hok : OK s.heap) (hn : n ≤ sizeLine)
    (h : ∀ (h' : Heap) (tk : Nat) (acc : Array Value), (∀ b o, s.heap.get? b = some o → h'.get? b = some o) → s.heap.objs.size < h'.objs.size → ItemsOf P acc n → R acc.toList { s with heap := h', toks := tk }) : wpAny (model prog w) A (collect (.ref r)) R E s := by
  obtain ⟨l1, l2⟩ := K.there _ hok
  have up : ∀ b o, s.heap.get? b = some o → (s.heap.push { cls := .type "list", data := .seq ([] : List Value).toArray }).get? b = some o := fun b o e => Heap.get?_push_of_some _ e
  have grown := PySem.W.kdl_extend (A := A) (s := { s with heap := s.heap.push { cls := .type "list", data := .seq ([] : List Value).toArray } }) (R := Gath s P n) K hh (K.keep _ _ hok fun b _ => up b) s.heap.objs.size (Nat.ne_of_gt l1) (Nat.ne_of_gt l2) (.ref s.heap.objs.size) 0
    (Heap.get?_push_size _ rfl) (fun h' tk acc c hk hS hI => ⟨rfl, h', tk, rfl, fun b o e => hk b o (Nat.ne_of_lt (Heap.lt_size e)) (up b o e), acc, c, hI, hS⟩) hn
  unfold collect; refine wpAny_bind (wpAny_runValue (codeAny_builtin entry_proto_collect' ?_)); rw [Around.under_plainId PySem.F.plain_proto_collect _]
  show wpAny _ A.in1 (newList [] >>= fun l => again (.builtin "list.__iadd__" ⟨[l, .ref r], []⟩)) _ _ s; refine wpAny_bind (wpAny_newObj_type (wpAny_pure ⟨plainId_quiet PySem.F.plain_list_iadd _, codeAny_builtin entry_list_iadd' ?_⟩))
  rw [Around.under_plainId PySem.F.plain_list_iadd _]; refine wpAny_mono grown (fun f s' x => ?_) fun e s' x => by cases x.1
  cases f with
  | done f =>
    obtain ⟨e, h', tk, rfl, hk, acc, c, hI, hS⟩ := x
    cases e
    exact wpAny_bind (wpAny_load hS (wpAny_pure (h h' tk acc hk (Heap.lt_size hS) hI)))
  | again c =>
    refine ⟨x.1, codeAny_mono x.2 fun q s2 y => ?_⟩
    obtain ⟨rfl, h', tk, rfl, hk, acc, c, hI, hS⟩ := y
    exact wpAny_bind (wpAny_load hS (wpAny_pure (h h' tk acc hk (Heap.lt_size hS) hI)))
theorem call_sortedK {X : Cx} (hc : X.calm = true) : CallR X (.builtin "sorted") (fun xs H Q => ∃ (p : Addr) (kvs : List (Key × V)) (ks : List Int), xs = [.ref p] ∧ H p = some (.dK kvs) ∧ kvs.map (·.1) = ks.map Sum.inl ∧ kvs.length < 64 ∧
    ∀ (l : Addr) (ks' : List Int), H l = none → ks'.Perm ks → ks'.Pairwise (· ≤ ·) → Q (.ref l) (upd H l (.lst (ks'.map V.int)))) := by
  intro pins s σ H xs us Q I r h
  obtain ⟨p, kvs, ks, rfl, hp, hk, hn, q⟩ := h
  obtain ⟨u, rfl, rx⟩ := vals1 r
  cases rx
  obtain ⟨z, lo, vs, kv, dd⟩ := dk_of I.hok hp
  obtain ⟨ep, hat⟩ := dd.dictAt
  have hl : kvs.length = vs.length := kv.length
  have hkeys : kvs.map (·.1) = vs.map (·.1) := kv.keys
  rw [hk] at hkeys
  have hkl : ks.length = vs.length := by have := congrArg List.length hkeys; simpa using this
  have l64 : (64 : Nat) ≤ sizeLine := by decide
  refine Calls.call_function_entry kind_sorted plain_sorted entry_sorted (args_sorted1 _) ?_
  unfold Builtin.«sorted»
  refine wpAny_bind (m := checkCount "sorted" 1 1 _) (wpAny_pure ?_)
  refine wpAny_bind (gather (A := X.A.in1) (PySem.W.kdl_dict (knd := mixKind X.prog X.w) (kvs := vs) (ep := ep) lo) (I.ok.hd hc) hat (by omega) fun h' tk acc hk' hlt' hacc => ?_)
  have hsz := Nat.le_of_lt hlt'
  have hal : acc.toList.length = vs.length := by rw [Array.length_toList]; exact hacc.1
  have hI : IntsAre acc.toList ks := intsBy (hal.trans hkl.symm) fun j u e => by
    obtain ⟨k, x, ek, is⟩ := hacc.2 j u (by rw [← Array.getElem?_toList]; exact e)
    have e2 : (ks.map Sum.inl : List Key)[j]? = some k := by rw [hkeys, List.getElem?_map, ek]; rfl
    rw [List.getElem?_map] at e2
    cases e3 : ks[j]? with
    | none => rw [e3] at e2; cases e2
    | some i =>
      rw [e3] at e2
      cases e2
      rcases keyIs_shape (show keyIs (Sum.inl i) u = true from is) with ⟨i', t, e4, e5⟩ | ⟨x', t, e4, e5⟩
      · cases e4
        exact ⟨i, t, rfl, e5⟩
      · cases e4
  refine wpAny_bind (wpAny_newList ?_ (by omega))
  have hoL : (h'.push (seqObj "list" acc.toList.toArray 0)).get? h'.objs.size = some (seqObj "list" acc.toList.toArray 0) := Heap.get?_push_size _ rfl
  refine wpAny_bind (wpAny_holding (wpAny_call_entry slot_list_sort ⟨_, hoL, rfl⟩ entry_list_sort (list_sort_tree hoL hI (by omega) fun out ns' a1 a2 a3 => ⟨_, rfl, ?_⟩) (args_list_sort _)))
  refine wpAny_pure ⟨_, rfl, ?_⟩
  obtain ⟨e, he⟩ := sortedHeap_at (out := out) hoL
  have kp : ∀ b o, s.heap.get? b = some o → (sortedHeap (h'.push (seqObj "list" acc.toList.toArray 0)) h'.objs.size acc.toList out).get? b = some o := fun b o x => by
    have lt := Heap.lt_size (hk' b o x)
    rw [sortedHeap_old (Nat.ne_of_lt lt) (by rw [size_push']; exact Nat.lt_succ_of_lt lt)]
    exact Heap.get?_push_of_some _ (hk' b o x)
  have hlo := a2.length_eq
  have hto : (out.toList).toArray = out := Array.toArray_toList
  exact ⟨.ref h'.objs.size, _, I.laid (t' := tk) kp hsz (show ObjOk X.prog X.w _ _ _ (.lst (ns'.map V.int)) from ⟨by rw [List.length_map]; omega, out.toList, e, vals_ints a1, by rw [hto]; exact he⟩), rfl, q _ ns' (I.hok.fresh hsz) a2 a3⟩
end L2

set_option maxHeartbeats 4000000
/-! list comprehensions of one clause with one test -/
namespace L2
open PySem PySem.Spec PyProof.Rows
theorem tests_one {prog : Program} {w : World} {A : Around} {env : Env} {c : Expr} {s : Shared} {Q : Bool → Shared → Prop} (h : wpAny (model prog w) A (isTrue c env (eval c env)) Q Calm s) :
    wpAny (model prog w) A (forIn [c] true fun c r => if r = true then do let ok ← isTrue c env (eval c env); pure (ForInStep.yield ok) else pure (ForInStep.yield r)) Q Calm s := wpAny_tests_one h
theorem compLoop_calmF {prog : Program} {w : World} {A : Around} {R : Result → Shared → Prop} {s : Shared} {e t i c : Expr} {sc : Scope} {pos : Pos} {it acc : Value} {env : Env} (J : Nat → Shared → Prop)
    (turn : ∀ n s, J n s → wpAny (model prog w) A (pyNext it) (fun r s1 => (r = none → R (.ok .next) s1) ∧ ∀ v, r = some v →
      wpAny (model prog w) A (letOwnedTupleGo t it v) (fun _ s2 => wpAny (model prog w) A (assign t env v) (fun _ s3 => wpAny (model prog w) A (isTrue c env (eval c env)) (fun ok s3' => if ok = true then wpAny (model prog w) A (eval e env) (fun x s4 =>
        wpAny (model prog w) A (call (.builtin "list.append") [acc, x]) (fun _ s5 => ∃ m, m < n ∧ J m s5) Calm s4) Calm s3' else ∃ m, m < n ∧ J m s3') Calm s3) Calm s2) Calm s1) Calm s)
    (n : Nat) (h : J n s) : codeAny (model prog w) A (.compLoop (.ListComp e [⟨t, i, [c], 0⟩] sc pos) 0 it acc env) R s := by
  have eq := compTurn_list e t i [c] sc pos it acc env
  refine codeAny_loop rfl J (fun n s j => wpAny_noted (m := compTurn (.ListComp e [⟨t, i, [c], 0⟩] sc pos) 0 it acc env) ?_) n h
  rw [eq]
  refine wpAny_bind (wpAny_standAt (thenC (turn n s j) fun r s1 q => ?_))
  match r, q with
  | none, q => exact wpAny_pure (q.1 rfl)
  | some v, q =>
    refine thenC (q.2 v rfl) fun _ s2 q2 => thenC q2 fun _ s3 q3 => thenC (tests_one q3) fun ok s4 q4 => ?_
    cases ok with
    | false => exact wpAny_pure ⟨rfl, q4⟩
    | true => exact wpAny_bind (thenC q4 fun x s5 q5 => thenC q5 fun _ s6 q6 => wpAny_pure (wpAny_pure ⟨rfl, q6⟩))
def LcWF (J : It) (g : TG) (tc : TT) (te : TE) (σ : St) (H : Hp) (acc : Addr) (Q : VK) : Prop := ∃ W : Nat → Nat → List V → St → Hp → Prop, (∃ m, W 0 m [] σ (upd H acc (.lst []))) ∧
  ∀ i m ys σ2 H2, W i m ys σ2 H2 → (J.stop i H2 ∧ Q (.ref acc) H2) ∨ (J.go i H2 ∧ ∀ x H3, J.yld i H2 x H3 → g x σ2 H3 fun σ4 H4 => tc σ4 H4 fun b H5 =>
    (b = true → te σ4 H5 fun y H6 => H6 acc = some (.lst ys) ∧ ys.length < sizeLine ∧ ∃ m', m' < m ∧ W (i + 1) m' (ys ++ [y]) σ4 (upd H6 acc (.lst (ys ++ [y])))) ∧ (b = false → ∃ m', m' < m ∧ W (i + 1) m' ys σ4 H5))
def tLcF (mp : List (Option Nat)) (wi : TI) (g : TG) (tc : TT) (te : TE) : TE := fun σ H Q => wi σ H fun J H1 => ∀ acc, H1 acc = none → LcWF J g tc te (sub mp σ) H1 acc Q
section
variable {X : Cx} {elt tg iter cond : Expr} {scope : Scope} {pos : Pos} {wi : TI} {g : TG} {tc : TT} {te : TE} {Nc : List Str} {mp : List (Option Nat)}
theorem lc_runF (hc : X.calm = true) (S : LcOk X.N X.env.scope scope Nc mp) (hg : ∀ ex pins s H, PG (cxLc X scope Nc ex pins s H) tg g) (ht : ∀ ex pins s H, PT (cxLc X scope Nc ex pins s H) cond tc) (he : ∀ ex pins s H, PE (cxLc X scope Nc ex pins s H) elt te)
    {pins : List (Addr × Obj)} {σ : St} {H2 : Hp} {s2 : Shared} {E : Value → Shared → Prop} {it : Addr} {fp : List Addr} {tn : Nat → Heap → Prop} {J : It} {Q : VK} {RR : Value → Addr → Result → Shared → Prop}
    (I2 : Inv X pins σ H2 s2) (T : Turn X.prog X.w X.K tg J fp it tn) (st2 : tn 0 s2.heap) (f2 : ∀ b ∈ fp, FpOk X pins H2 b)
    (q : ∀ acc, H2 acc = none → LcWF J g tc te (sub mp σ) H2 acc Q)
    (fin : ∀ acc C H' s' m', Q (.ref acc) H' → Inv X pins σ H' s' → s'.heap.Ns C m' → H' C = none → X.s₀.heap.objs.size ≤ C → C ≠ X.env.locals → (∀ x c, X.env.cells.lookup x = some c → c ≠ C) → (∀ p ∈ X.pn ++ pins, p.1 ≠ C) → RR (.ref acc) C (.ok .next) s') :
    wpAny (model X.prog X.w) X.A (newList []) (fun acc s₃ => wpAny (model X.prog X.w) X.A (newFunctionEnv scope X.env.globals (clo scope.names X.env.cells) [] X.env.qual none .none (some X.env)) (fun cenv s₄ =>
      codeAny (model X.prog X.w) X.A (.compStart (.ListComp elt [⟨tg, iter, [cond], 0⟩] scope pos) 0 (.ref it) acc { cenv with scope := relabel scope X.env }) (RR acc cenv.locals) s₄) E s₃) E s2 := by
  refine wpAny_newObj_type (wpAny_newFunctionEnv S.nocell (by intro y hy; simp at hy) (fun h₁ hns₁ hsb₁ => ?_) S.kind)
  dsimp only at hns₁ hsb₁ ⊢
  have I3 := I2.lnew (its := []) (ys := []) (t' := s2.toks) .nil (Nat.zero_le _)
  have hacc : H2 s2.heap.objs.size = none := I2.fresh
  obtain ⟨W, ⟨m0, w0⟩, turn⟩ := q s2.heap.objs.size hacc
  have hpush : (s2.heap.push { cls := .type "list", dict := none, data := .seq ([] : List Value).toArray }).objs.size = s2.heap.objs.size + 1 := Heap.size_push ..
  have hlt : ∀ b ∈ fp, b < s2.heap.objs.size := fun b hb => by
    obtain ⟨o, e, _⟩ := T.obj _ _ st2 b hb
    exact Heap.lt_size e
  have f3 : ∀ b ∈ fp, FpOk X pins (upd H2 s2.heap.objs.size (.lst [])) b := fun b hb => ⟨by rw [upd_ne (Nat.ne_of_lt (hlt b hb))]; exact (f2 b hb).1, (f2 b hb).2⟩
  have I3' : Inv X pins σ (upd H2 s2.heap.objs.size (.lst [])) (withList s2) := I3
  have hsz : (withList s2).heap.objs.size = s2.heap.objs.size + 1 := hpush
  have hlt3 : ∀ b ∈ fp, b < (withList s2).heap.objs.size := fun b hb => by rw [hsz]; exact Nat.lt_succ_of_lt (hlt b hb)
  have k3 : ∀ b o, (withList s2).heap.get? b = some o → h₁.get? b = some o := fun b o e => hsb₁.extBut b o (Nat.ne_of_lt (Heap.lt_size e)) (Heap.get?_push_of_some _ e)
  have Ic := lc_start (tk := (withList s2).toks) I3' S f3 hlt3 hns₁ k3
  have st3 : tn 0 h₁ := T.keep _ _ _ st2 fun b hb o e => k3 b o (Heap.get?_push_of_some _ e)
  -- what the block's frame is to the def
  have cC : X.s₀.heap.objs.size ≤ (withList s2).heap.objs.size := I3'.sz
  have cL : (withList s2).heap.objs.size ≠ X.env.locals := Nat.ne_of_gt I3'.lt
  have cc : ∀ x c, X.env.cells.lookup x = some c → c ≠ (withList s2).heap.objs.size := fun x c e => by
    obtain ⟨v, o, ho, _⟩ := I3'.cell x c e
    exact Nat.ne_of_lt (Heap.lt_size ho)
  have cp : ∀ p ∈ X.pn ++ pins, p.1 ≠ (withList s2).heap.objs.size := fun p hp => Nat.ne_of_lt (Heap.lt_size (I3'.pin p hp).1)
  have stat : ∀ {H' : Hp}, (∀ b ∈ fp, H' b = none) → ∀ b ∈ fp, FpOk (cxLc X scope Nc fp pins (withList s2) (upd H2 s2.heap.objs.size (.lst []))) [] H' b := fun hn b hb =>
    ⟨hn b hb, Nat.ne_of_lt (hlt3 b hb), fun z => by
      rcases List.mem_cons.mp (I3'.stkSub b z) with e | e
      · exact (f3 b hb).2.1 e
      · exact (f3 b hb).2.2.1 e, .inl hb, fun x c e => (f3 b hb).2.2.2.2.1 x c (lc_sub I3' S e), fun p hp => (f3 b hb).2.2.2.2.2 p (by
        have : p ∈ (X.pn ++ pins) ++ [] := hp
        simpa using this)⟩
  have loop : ∀ s4 : Shared, s4 = { (withList s2) with heap := h₁, toks := (withList s2).toks } →
      codeAny (model X.prog X.w) X.A (.compLoop (.ListComp elt [⟨tg, iter, [cond], 0⟩] scope pos) 0 (.ref it) (.ref s2.heap.objs.size) (cxLc X scope Nc fp pins (withList s2) (upd H2 s2.heap.objs.size (.lst []))).env)
        (RR (.ref s2.heap.objs.size) (withList s2).heap.objs.size) s4 := by
    rintro s4 rfl
    refine compLoop_calmF (fun n s' => ∃ i ys σ' H', Inv (cxLc X scope Nc fp pins (withList s2) (upd H2 s2.heap.objs.size (.lst []))) [] σ' H' s' ∧ tn i s'.heap ∧ (∀ b ∈ fp, H' b = none) ∧ W i n ys σ' H') ?_ m0
      ⟨0, [], sub mp σ, _, Ic, st3, fun b hb => (f3 b hb).1, w0⟩
    rintro n s5 ⟨i, ys, σ5, H5, I5, st5, fr5, w5⟩
    rcases turn i n ys σ5 H5 w5 with ⟨stop, qn⟩ | ⟨go, step⟩
    · refine wpAny_mono (T.done (cxLc X scope Nc fp pins (withList s2) (upd H2 s2.heap.objs.size (.lst []))) rfl rfl rfl hc i [] s5 σ5 H5 (fun _ _ => False) I5 (stat fr5) st5 stop) (fun r s6 ⟨hr, I6⟩ => ?_) fun _ _ f => f.elim
      subst hr
      obtain ⟨m6, hn6, _⟩ := I6.loc
      refine ⟨fun _ => ?_, fun _ z => nomatch z⟩
      exact fin _ _ H5 s6 m6 qn (lc_end I3' f3 I6) hn6 I6.free cC cL cc cp
    · refine wpAny_mono (T.item (cxLc X scope Nc fp pins (withList s2) (upd H2 s2.heap.objs.size (.lst []))) rfl rfl rfl hc i [] s5 σ5 H5 (fun _ _ => False) I5 (stat fr5) st5 go) (fun r s6 ⟨u, hr, h6⟩ => ?_) fun _ _ f => f.elim
      subst hr
      refine ⟨(fun z => by cases z), ?_⟩
      rintro _ ⟨⟩
      refine wpAny_mono h6 (fun _ s7 ⟨x, H7, I7, r7, y7, st7, fr7⟩ => ?_) fun _ _ f => f.elim
      have I7' := I7.pinned (stat fr7) (T.obj _ _ st7)
      refine wpAny_mono (hg _ _ _ _ _ s7 σ5 H7 x u _ I7' r7 (step x H7 y7)) (fun _ s8 ⟨σ8, H8, I8, q8⟩ => ?_) fun _ _ f => f.elim
      refine wpAny_mono (ht _ _ _ _ _ s8 σ8 H8 _ I8 q8) (fun bb s9 ⟨H9, I9, p9, n9⟩ => ?_) fun _ _ f => f.elim
      have keeps : ∀ {H' : Hp} {s' : Shared}, Inv (cxLc X scope Nc fp pins (withList s2) (upd H2 s2.heap.objs.size (.lst []))) ([] ++ pinsAt fp s7.heap) σ8 H' s' → tn (i + 1) s'.heap ∧ ∀ b ∈ fp, H' b = none := fun {H' s'} J' =>
        ⟨T.keep _ _ _ st7 fun b hb o e => (J'.pin (b, o) (List.mem_append_right _ (List.mem_append_right _ (mem_pinsAt hb e)))).1, fun b hb => by
          obtain ⟨o, e, d⟩ := T.obj _ _ st7 b hb
          exact (J'.pin (b, o) (List.mem_append_right _ (List.mem_append_right _ (mem_pinsAt hb e)))).2.1⟩
      cases bb with
      | false =>
        obtain ⟨m', hm', w9⟩ := n9 rfl
        rw [if_neg Bool.false_ne_true]
        exact ⟨m', hm', i + 1, ys, σ8, H9, I9.unpinned, (keeps I9).1, (keeps I9).2, w9⟩
      | true =>
        rw [if_pos rfl]
        refine wpAny_mono (he _ _ _ _ _ s9 σ8 H9 _ I9 (p9 rfl)) (fun v s10 ⟨y, H10, I10, r10, a10, l10, m', hm', w10⟩ => ?_) fun _ _ f => f.elim
        refine wpAny_mono (mt_append (X := cxLc X scope Nc fp pins (withList s2) (upd H2 s2.heap.objs.size (.lst []))) _ s10 σ8 H10 (.ref s2.heap.objs.size) [y] (.ref s2.heap.objs.size) [v] (fun z Hz => z = .non ∧ Hz = upd H10 s2.heap.objs.size (.lst (ys ++ [y]))) I10 rfl (.cons r10 .nil) ⟨_, ys, y, rfl, rfl, a10, l10, rfl, rfl⟩) (fun v11 s11 ⟨z, H11, I11, _, _, e11⟩ => ?_) fun _ _ f => f.elim
        subst e11
        exact ⟨m', hm', i + 1, ys ++ [y], σ8, _, I11.unpinned, (keeps I11).1, (keeps I11).2, w10⟩
  exact codeAny_compStart_list (loop _ rfl) (T.self _ 0 _ _ _ st3 (loop _ rfl))
theorem pe_lcF (hc : X.calm = true) (S : LcOk X.N X.env.scope scope Nc mp) (hi : PI X tg iter wi) (hg : ∀ ex pins s H, PG (cxLc X scope Nc ex pins s H) tg g) (ht : ∀ ex pins s H, PT (cxLc X scope Nc ex pins s H) cond tc) (he : ∀ ex pins s H, PE (cxLc X scope Nc ex pins s H) elt te)
    (hf : ∀ x, foldedSetIterable iter X.env x = pure x := by intro _; rfl) : PE X (.ListComp elt [⟨tg, iter, [cond], 0⟩] scope pos) (tLcF mp wi g tc te) := by
  intro pins s σ H Q I h
  rw [eval_ListComp]
  refine wpAny_comprehension_free (use := none) rfl hf (closure_eq (lc_cells I S)) S.kind S.names (thn (hi pins s σ H _ I h) fun v s1 h1 => thn h1 fun itv s2 h2 => ?_)
  obtain ⟨it, fp, tn, J, H2, e, I2, T, st2, f2, q⟩ := h2
  subst e
  refine lc_runF (RR := fun acc C => compPost (model X.prog X.w) X.A X.xe none (EP X pins σ Q) acc C) hc S hg ht he I2 T st2 f2 q ?_
  intro acc C H' s' m' qq I' hn hC c1 c2 c3 c4
  refine ⟨m', hn, fun h' hs => ⟨.ref acc, H', ?_, rfl, qq⟩⟩
  exact I'.turnedNew (t' := s'.toks) (fun b o hb e => hs.extBut b o hb e) hC c1 c2 c3 c4
theorem ps_setLcF {i : Nat} {x : Str} {pos' spos : Pos} (hc : X.calm = true) (hN : X.N.Nodup) (hi' : X.N[i]? = some x) (hx : X.env.scope.names.lookup x = some .local) (S : LcOk X.N X.env.scope scope Nc mp) (hi : PI X tg iter wi)
    (hg : ∀ ex pins s H, PG (cxLc X scope Nc ex pins s H) tg g) (ht : ∀ ex pins s H, PT (cxLc X scope Nc ex pins s H) cond tc) (he : ∀ ex pins s H, PE (cxLc X scope Nc ex pins s H) elt te)
    (hsw : swapsWith (.ListComp elt [⟨tg, iter, [cond], 0⟩] scope pos) (some (.Name x pos')) spos.line X.env = pure true)
    (hf : ∀ x, foldedSetIterable iter X.env x = pure x := by intro _; rfl) : PS X (.Assign [.Name x pos'] (.ListComp elt [⟨tg, iter, [cond], 0⟩] scope pos) spos) (tAsg (tLcF mp wi g tc te) (gName i)) := by
  intro pins s σ H D I h
  rw [exec_Assign_Name_used _ _ _ _ hsw]
  refine wpAny_bind (wpAny_standAt (wpAny_bind ?_))
  show wpAny _ X.A (do let _ ← comprehension (.ListComp elt [⟨tg, iter, [cond], 0⟩] scope pos) scope X.env _ (newList []) false (eval iter X.env) (some (assign (.Name x pos') X.env))) _ _ s
  refine wpAny_bind (wpAny_mono (wpAny_comprehension_free (use := some (assign (.Name x pos') X.env)) (Q := fun _ s' => SP X pins D .next s') rfl hf (closure_eq (lc_cells I S)) S.kind S.names
    (thn (hi pins s σ H _ I h) fun v s1 h1 => thn h1 fun itv s2 h2 => ?_)) (fun _ s' hq => wpAny_pure (wpAny_pure hq)) fun _ _ e => e)
  obtain ⟨it, fp, tn, J, H2, e, I2, T, st2, f2, q⟩ := h2
  subst e
  refine lc_runF (Q := fun x H1 => gName i x σ H1 D.nx) (RR := fun acc C => compPost (model X.prog X.w) X.A X.xe (some (assign (.Name x pos') X.env)) (fun _ s' => SP X pins D .next s') acc C) hc S hg ht he I2 T st2 f2 q ?_
  intro acc C H' s' m' qq I' hn hC c1 c2 c3 c4
  show wpAny _ X.A (assign (.Name x pos') X.env (.ref acc)) _ _ _
  refine wpAny_assign_Name (store_ok2 (v := .ref acc) I' hN hi' (.inl hx) rfl (fun s5 I5 ⟨a, hs5, ha⟩ => ?_) (.inr hx))
  have hCa : C ≠ a := by
    rcases ha with z | z
    · rw [z]; exact c2
    · exact Ne.symm (c3 x a z)
  refine ⟨m', hn.sameBut hs5 hCa, fun h' hs => ⟨σ.set i (some (.ref acc)), H', ?_, qq⟩⟩
  exact I5.turnedNew (t' := s5.toks) (fun b o hb e => hs.extBut b o hb e) hC c1 c2 c3 c4
end
def tTruI (t : TE) : TT := fun σ H Q => t σ H fun x H' => ∃ i, x = .int i ∧ Q (i != 0) H'
theorem pt_truI {X : Cx} {a : Expr} {ta : TE} (ha : PE X a ta) (he : ∀ whole, isTrue a X.env whole = (do let v ← whole; standAt a.pos; holding [v] (truthy v))) : PT X a (tTruI ta) := by
  intro pins s σ H Q I h
  refine isTrue_plain (thn (ha pins s σ H _ I h) fun v s1 ⟨x, H1, I1, r1, i, e, q1⟩ => ?_) (he _)
  subst e
  exact tru_ok pins s1 σ H1 (.int i) v Q I1 r1 ⟨_, rfl, q1⟩
theorem lcF_range {lo : Int} {n : Nat} {tc : TT} {te : TE} {fr : St} {H1 : Hp} {acc : Addr} {Q : VK} (Pv : Nat → List V → Hp → Prop) (hn : n ≤ sizeLine) (h0 : Pv 0 [] (upd H1 acc (.lst [])))
    (hs : ∀ i ys H (N : Bool → Hp → Prop), i < n → ys.length ≤ i → Pv i ys H → (∀ b H5, (b = true → te (some (.int (lo + i)) :: fr) H5 fun y H6 => H6 acc = some (.lst ys) ∧ Pv (i + 1) (ys ++ [y]) (upd H6 acc (.lst (ys ++ [y])))) → (b = false → Pv (i + 1) ys H5) → N b H5) → tc (some (.int (lo + i)) :: fr) H N)
    (mono : ∀ {σ H} {R R' : VK}, (∀ v H, R v H → R' v H) → te σ H R → te σ H R')
    (hd : ∀ ys H, Pv n ys H → Q (.ref acc) H) : LcWF (Itr lo n) (gName 0) tc te (none :: fr) H1 acc Q := by
  refine ⟨fun i m ys σ2 H2 => m = n - i ∧ i ≤ n ∧ ys.length ≤ i ∧ (∃ v, σ2 = v :: fr) ∧ Pv i ys H2, ⟨n, by simp, Nat.zero_le _, Nat.le_refl _, ⟨_, rfl⟩, h0⟩, ?_⟩
  rintro i m ys σ2 H2 ⟨rfl, hi, hl, ⟨v, rfl⟩, p⟩
  by_cases hlt : i < n
  · refine .inr ⟨hlt, fun x H3 y3 => ?_⟩
    obtain ⟨rfl, rfl⟩ := y3
    show tc ((v :: fr).set 0 (some (.int (lo + i)))) _ _
    rw [List.set_cons_zero]
    refine hs i ys _ _ hlt hl p fun b H5 ht hf => ⟨fun e => mono (fun y H6 q => ?_) (ht e), fun e => ⟨n - (i + 1), by omega, rfl, hlt, by omega, ⟨_, rfl⟩, hf e⟩⟩
    exact ⟨q.1, by omega, n - (i + 1), by omega, rfl, hlt, by rw [List.length_append]; simp; omega, ⟨_, rfl⟩, q.2⟩
  · have e : i = n := by omega
    subst e
    exact .inl ⟨Nat.le_refl _, hd ys H2 p⟩
end L2

set_option maxHeartbeats 4000000
/-! amounts: four parts and halvings -/
namespace Am
open PySem
end Am

set_option maxHeartbeats 4000000
namespace L2
open PySem PySem.Spec PyProof.Rows
section
variable {X : Cx} {scope : Scope} {Nc : List Str} {ex : List Addr} {pins : List (Addr × Obj)} {s : Shared} {H : Hp}
theorem ix_listC : IxR (cxLc X scope Nc ex pins s H) (rIxL X.K) := ix_list
theorem ix_tupC : IxR (cxLc X scope Nc ex pins s H) (rIxT X.K) := ix_tup
theorem pg_pairC {x y : Str} {k : Nat} {p1 p2 pos : Pos} (hc : (cxLc X scope Nc ex pins s H).calm = true) (hN : Nc.Nodup) (h0 : Nc[0]? = some x) (h1 : Nc[1]? = some y) (l0 : (cxLc X scope Nc ex pins s H).env.scope.names.lookup x = some .local) (l1 : (cxLc X scope Nc ex pins s H).env.scope.names.lookup y = some .local) :
    PG (cxLc X scope Nc ex pins s H) (.Tuple [.Name x p1, .Name y p2] k pos) (gTup X.K 2 (gCons (gName 0) (gCons (gName 1) gNil))) :=
  pg_tup (X := cxLc X scope Nc ex pins s H) hc (pgs_cons (pg_name (i := 0) hN h0 (.inl l0) (.inr l0)) (pgs_cons (pg_name (i := 1) hN h1 (.inl l1) (.inr l1)) pgs_nil))
end
end L2
namespace L2
open PySem PySem.Spec PyProof.Rows
section
variable {K : PySem.W.Frag} {a : Addr} {ns : List Int} {te : TE} {fr : St} {H1 : Hp} {acc : Addr} {Q : VK}
theorem lc_pure {J : It} {n : Nat} {val : Nat → V} (f : Nat → V) (hn : n ≤ sizeLine) (hacc : H1 acc = none)
    (hgo : ∀ i H, i < n → Same H1 H → J.go i H ∧ ∀ x H', J.yld i H x H' → H' = H ∧ x = val i) (hst : ∀ H, Same H1 H → J.stop n H)
    (hs : ∀ i H (N : V → Hp → Prop), i < n → Same H1 H → N (f i) H → te (some (val i) :: fr) H N)
    (hd : ∀ H2, Same H1 H2 → H2 acc = some (.lst ((List.range n).map f)) → Q (.ref acc) H2) : LcW J (gName 0) te (none :: fr) H1 acc Q := by
  refine lc_by (val := val) (fun i ys H' => Same H1 H' ∧ H' acc = some (.lst ys) ∧ ys = (List.range i).map f) hn ⟨same_new hacc _, upd_same, rfl⟩ (fun i ys H hi p => hgo i H hi p.1) (fun ys H p => hst H p.1) ?_ ?_
  · rintro i ys H N hi hl ⟨s2, a2, e2⟩ kN
    refine hs i H N hi s2 (kN _ _ a2 ⟨same_upd s2 hacc, upd_same, ?_⟩)
    rw [e2, List.range_succ, List.map_append]
    rfl
  · rintro ys H hl ⟨s2, a2, e2⟩
    exact hd H s2 (by rw [a2, e2])
theorem range_map (ns : List Int) (f : Int → V) : (List.range ns.length).map (fun i => f (ns.getD i 0)) = ns.map f := by
  apply List.ext_getElem
  · simp
  · intro i h1 h2
    simp at h1
    simp [h1]
end
section
variable {X : Cx}
end
end L2
namespace L2
open PySem PySem.Spec PyProof.Rows
theorem lc_listM {K : PySem.W.Frag} {a : Addr} {ns : List Int} {te : TE} {fr : St} {H1 : Hp} {acc : Addr} {Q : VK} (f : Int → V) (hl : SqL K H1 a (ns.map V.int)) (hn : ns.length ≤ sizeLine) (hacc : H1 acc = none) (hs : ∀ n H (N : V → Hp → Prop), n ∈ ns → Same H1 H → N (f n) H → te (some (.int n) :: fr) H N)
    (hd : ∀ H2, Same H1 H2 → H2 acc = some (.lst (ns.map f)) → Q (.ref acc) H2) : LcW (Itl K a) (gName 0) te (none :: fr) H1 acc Q := by
  refine lc_pure (n := ns.length) (val := fun i => .int (ns.getD i 0)) (fun i => f (ns.getD i 0)) hn hacc (fun i H hi s => ?_) (fun H s => ⟨_, s.seq hl, by simp⟩) (fun i H N hi s kN => hs _ H N (by simp [hi]) s kN) (fun H2 s h => hd H2 s (by rw [h, range_map]))
  have e : (ns.map V.int)[i]? = some (.int (ns.getD i 0)) := by simp [hi]
  refine ⟨⟨_, _, s.seq hl, e⟩, fun x H' y => ⟨y.1, ?_⟩⟩
  have := y.2 _ (s.seq hl)
  rw [e] at this
  exact (Option.some.inj this).symm
end L2

set_option maxHeartbeats 4000000
/-! boards: lists of tuples of ints; products of great ints; all(..) of bools; the script's weight -/
namespace L2
open PySem PySem.Spec PyProof.Rows
section
variable {X : Cx}
theorem call_allL (hc : X.calm = true) : CallR X (.builtin "all") (fun xs H Q => ∃ (p : Addr) (bs : List Bool), xs = [.ref p] ∧ SqL X.K H p (bs.map V.bl) ∧ Q (.bl (bs.all id)) H) := by
  intro pins s σ H xs us Q I r h
  obtain ⟨p, bs, rfl, hq, q⟩ := h
  obtain ⟨u, rfl, ru⟩ := r.one
  cases ru
  obtain ⟨its, rv, pl, hz⟩ := I.list hq
  have hlen : its.length = bs.length := by rw [← rv.length, List.length_map]
  refine call_all_walk (wpAny_pyIter_list pl.isList ?_)
  have W := Walks.list (prog := X.prog) (w := X.w) (A := X.A.in1) (show X.A.in1.handled = none from I.ok.hd hc) s.heap.objs.size p (by
    obtain ⟨o, e, _⟩ := pl.isList
    exact Nat.ne_of_lt (Heap.lt_size e)) its.toArray
  refine ⟨s.heap.objs.size, _, _, _, _, _, fun i => bs.getD i false, rfl, W, ⟨⟨_, Heap.get?_push_size _ rfl, rfl, rfl⟩, pl.isList.push _⟩, ?_, fun h' tk hk => ?_⟩
  · intro i v s' Q' E' hv hQ
    have hv' : its[i]? = some v := by simpa using hv
    have hi : i < bs.length := by rw [← hlen]; exact (List.getElem?_eq_some_iff.mp hv').1
    obtain ⟨u, hu, ru⟩ := rv.get (show (bs.map V.bl)[i]? = some (.bl (bs.getD i false)) by simp [hi])
    rw [hv'] at hu
    cases hu
    cases ru
    exact wpAny_truthy_bool hQ
  · have e : (List.range its.toArray.size).all (fun i => bs.getD i false) = bs.all id := by
      rw [List.size_toArray, hlen, Bool.eq_iff_iff, List.all_eq_true, List.all_eq_true]
      constructor
      · intro z b hb
        obtain ⟨i, hi, rfl⟩ := List.mem_iff_getElem.mp hb
        have := z i (List.mem_range.mpr hi)
        simpa [hi] using this
      · intro z i hi
        have hi' : i < bs.length := List.mem_range.mp hi
        have := z bs[i] (List.getElem_mem hi')
        simpa [hi'] using this
    rw [e]
    refine ⟨.bl (bs.all id), H, ?_, rfl, q⟩
    exact I.kept (t' := tk) fun b o eo => hk b o (by simp; exact Nat.ne_of_lt (Heap.lt_size eo)) (Heap.get?_push_of_some _ eo)
end
/-! ### == of lists of tuples of ints -/
section
variable {P : Program} {w : World} {H : Hp} {h : Heap}
def Rows5 (H : Hp) : List Addr → List (List Int) → Prop := Paired fun p ns => H p = some (.tup (ns.map V.int))
theorem readsAll_rows (ok : HOk P w H h) : ∀ {ps : List Addr} {xs : List (List Int)} {us : List Value}, Rows5 H ps xs → Vals (ps.map V.ref) us → ∃ as, ReadsAll h us (xs.map fun ns => PyData.tuple (ns.map PyData.int)) as
  | [], [], us, .nil, r => by cases r; exact ⟨[], .nil⟩
  | p :: ps, ns :: xs, us, .cons e r, rv => by
    cases rv with
    | cons ru rr =>
      cases ru
      obtain ⟨as, ha⟩ := readsAll_rows ok r rr
      obtain ⟨_, its, rv', ht⟩ := (show ObjOk P w H h p (.tup (ns.map V.int)) from ok p _ e)
      exact ⟨_, .cons (reads_tupI ht (intsAre_of rv')) ha⟩
end
section
variable {X : Cx}
theorem canLay_rows : ∀ xs : List (List Int), PyData.canLayAll0 (xs.map fun ns => PyData.tuple (ns.map PyData.int)) = true
  | [] => by simp [PyData.canLayAll0]
  | n :: r => by simp [PyData.canLayAll0, PyData.canLay0, canLay_rows r, PySem.W.canLayAll0_ints n]
theorem depth_rows : ∀ xs : List (List Int), PyData.depthAll (xs.map fun ns => PyData.tuple (ns.map PyData.int)) ≤ 2
  | [] => by simp [PyData.depthAll]
  | n :: r => by
    have h1 := depth_rows r
    have h2 := PySem.W.depthAll_ints n
    simp only [List.map_cons, PyData.depthAll, PyData.depth]
    omega
theorem shaped_rows (xs : List (List Int)) : SeqAt.shaped (.list (xs.map fun ns => PyData.tuple (ns.map PyData.int))) = true := by
  have h2 : PyData.depth (.list (xs.map fun ns => PyData.tuple (ns.map PyData.int))) ≤ 64 := by
    have := depth_rows xs
    simp only [PyData.depth]
    omega
  show (PyData.canLay0 _ && decide _) = true
  rw [Bool.and_eq_true]
  exact ⟨by simp only [PyData.canLay0]; exact canLay_rows xs, decide_eq_true h2⟩
theorem noMix_rows : ∀ xs ys : List (List Int), SeqAt.noMixAll (xs.map fun ns => PyData.tuple (ns.map PyData.int)) (ys.map fun ns => PyData.tuple (ns.map PyData.int)) = true
  | [], [] => by simp [SeqAt.noMixAll]
  | [], _ :: _ => by simp [SeqAt.noMixAll]
  | _ :: _, [] => by simp [SeqAt.noMixAll]
  | n :: r, m :: q => by
    simp only [List.map_cons, SeqAt.noMixAll, SeqAt.noMix, Bool.and_eq_true]
    exact ⟨PySem.W.noMix_ints n m, noMix_rows r q⟩
theorem same_rows : ∀ xs ys : List (List Int), PySem.Spec.sameAll (xs.map fun ns => PyData.tuple (ns.map PyData.int)) (ys.map fun ns => PyData.tuple (ns.map PyData.int)) = decide (xs = ys)
  | [], [] => by simp [PySem.Spec.sameAll]
  | [], _ :: _ => by simp [PySem.Spec.sameAll]
  | _ :: _, [] => by simp [PySem.Spec.sameAll]
  | n :: r, m :: q => by
    simp only [List.map_cons, PySem.Spec.sameAll, PySem.Spec.same, PySem.W.same_ints, same_rows r q]
    by_cases e : n = m <;> simp [e]
def rEqLT (neg : Bool) : R2 := fun x y H Q => ∃ (a b : Addr) (ps qs : List Addr) (xs ys : List (List Int)), x = .ref a ∧ y = .ref b ∧ H a = some (.lst (ps.map V.ref)) ∧ H b = some (.lst (qs.map V.ref)) ∧ Rows5 H ps xs ∧ Rows5 H qs ys ∧ Q (.bl (if neg then !decide (xs = ys) else decide (xs = ys))) H
theorem reads_board {pins : List (Addr × Obj)} {σ : St} {H : Hp} {s : Shared} (I : Inv X pins σ H s) {a : Addr} {ps : List Addr} {xs : List (List Int)} (h : H a = some (.lst (ps.map V.ref))) (r : Rows5 H ps xs) : ∃ as, Reads s.heap (.ref a) (.list (xs.map fun ns => PyData.tuple (ns.map PyData.int))) as := by
  obtain ⟨its, rv, pl, _⟩ := I.list (SqL.of h)
  obtain ⟨as, ha⟩ := readsAll_rows I.hok r rv
  obtain ⟨o, ho, hc, n, hd⟩ := pl.isList
  exact ⟨_, Reads.list ho hc hd (by simpa using ha)⟩
theorem op_eqLT (hu : X.A.units + 64 < cLine) : OpR X (compareOp .Eq) (rEqLT false) := by
  intro pins s σ H x y v u Q I rx ry h
  obtain ⟨a, b, ps, qs, xs, ys, rfl, rfl, h1, h2, r1, r2, q⟩ := h
  cases rx; cases ry
  obtain ⟨as, ra⟩ := reads_board I h1 r1
  obtain ⟨bs, rb⟩ := reads_board I h2 r2
  refine eq_dataH_same ra rb (shaped_rows xs) (shaped_rows ys) hu (by simp only [SeqAt.noMix]; exact noMix_rows xs ys) ⟨.bl (decide (xs = ys)), H, I, ?_, q⟩
  show _ = _
  simp only [PySem.Spec.same]
  rw [same_rows]
theorem op_neLT (hu : X.A.units + 64 < cLine) : OpR X (compareOp .NotEq) (rEqLT true) := by
  intro pins s σ H x y v u Q I rx ry h
  obtain ⟨a, b, ps, qs, xs, ys, rfl, rfl, h1, h2, r1, r2, q⟩ := h
  cases rx; cases ry
  obtain ⟨as, ra⟩ := reads_board I h1 r1
  obtain ⟨bs, rb⟩ := reads_board I h2 r2
  refine ne_dataH_same ra rb (shaped_rows xs) (shaped_rows ys) hu (by simp only [SeqAt.noMix]; exact noMix_rows xs ys) ⟨.bl (!decide (xs = ys)), H, I, ?_, q⟩
  show _ = _
  simp only [PySem.Spec.same]
  rw [same_rows]
end
section
variable {X : Cx} {scope : Scope} {Nc : List Str} {ex : List Addr} {pins : List (Addr × Obj)} {s : Shared} {H : Hp}
end
end L2

set_option maxHeartbeats 4000000
namespace K53
open PySem PySem.Spec PyProof.Rows L2 Pc K51
def top (i : Nat) : Stmt := PySem.Challenge.pw_spinboard_k53_reduced.main.body.getD i (.Pass ⟨0, 0, 0, 0⟩)
structure Bs (mg : Str → Option Value) : Prop where
  isinstance : mg "isinstance" = none
  int : mg "int" = none
  bool : mg "bool" = none
  tuple : mg "tuple" = none
  list : mg "list" = none
  len : mg "len" = none
  range : mg "range" = none
  enumerate : mg "enumerate" = none
  sorted : mg "sorted" = none
  sum : mg "sum" = none
  str : mg "str" = none
  all : mg "all" = none
  any : mg "any" = none
  min : mg "min" = none
  max : mg "max" = none
theorem bits_bl (m : Nat) : Builtin.Int.intBits (m : Int) = bl m := by
  unfold Builtin.Int.intBits bl
  by_cases h : m = 0
  · subst h; rfl
  · have hb : ((m : Int) == 0) = false := by simpa using h
    rw [hb, if_neg h]
    simp
abbrev T3 (t : Ent) : HO := .tup [.int t.1, .int t.2.1, .int t.2.2]
def Kept (H : Hp) : List (Key × V) → List Ent → Prop := Paired fun kv t => kv.1 = Sum.inl (bl t.1 : Int) ∧ ∃ p, kv.2 = .ref p ∧ H p = some (T3 t)
theorem Kept.same {H H' : Hp} {kvs : List (Key × V)} {ts : List Ent} (h : Kept H kvs ts) (s : Same H H') : Kept H' kvs ts :=
  Paired.imp' (fun _ _ ⟨a, p, b, c⟩ => ⟨a, p, b, s _ _ c⟩) h
theorem Kept.get {H : Hp} {k : Int} {v : V} : ∀ {kvs : List (Key × V)} {ts : List Ent}, Kept H kvs ts → valV kvs (Sum.inl k) = some v → ∃ t ∈ ts, ∃ p, (bl t.1 : Int) = k ∧ v = .ref p ∧ H p = some (T3 t)
  | [], [], _, h => by simp [valV_nil] at h
  | kv :: kvs, t :: ts, .cons ⟨a, p, b, c⟩ r, h => by
    by_cases e : kv.1 = Sum.inl k
    · rw [valV_pos e] at h
      cases h
      rw [a] at e
      exact ⟨t, List.mem_cons_self, p, Sum.inl.inj e, b, c⟩
    · rw [valV_neg e] at h
      obtain ⟨t', m, q⟩ := Kept.get r h
      exact ⟨t', List.mem_cons_of_mem _ m, q⟩
theorem Kept.none {H : Hp} {k : Int} : ∀ {kvs : List (Key × V)} {ts : List Ent}, Kept H kvs ts → valV kvs (Sum.inl k) = none → ∀ t ∈ ts, (bl t.1 : Int) ≠ k
  | [], [], _, _, t, ht => by cases ht
  | kv :: kvs, t :: ts, .cons ⟨a, p, b, c⟩ r, h, t', ht => by
    by_cases e : kv.1 = Sum.inl k
    · rw [valV_pos e] at h
      cases h
    · rw [valV_neg e] at h
      rcases List.mem_cons.mp ht with rfl | ht
      · intro z
        rw [a, z] at e
        exact e rfl
      · exact Kept.none r h t' ht
theorem Kept.snoc {H : Hp} {p : Addr} {t : Ent} {kvs : List (Key × V)} {ts : List Ent} (h : Kept H kvs ts) (hp : H p = some (T3 t)) : Kept H (kvs ++ [(Sum.inl (bl t.1 : Int), .ref p)]) (ts ++ [t]) :=
  Paired.snoc h ⟨rfl, p, rfl, hp⟩
theorem Kept.keys {H : Hp} : ∀ {kvs : List (Key × V)} {ts : List Ent}, Kept H kvs ts → kvs.map (·.1) = (ts.map fun t => (bl t.1 : Int)).map Sum.inl
  | [], [], _ => rfl
  | kv :: kvs, t :: ts, .cons ⟨a, _⟩ r => by rw [List.map_cons, List.map_cons, List.map_cons, Kept.keys r, a]
theorem Kept.length {H : Hp} {kvs : List (Key × V)} {ts : List Ent} (h : Kept H kvs ts) : kvs.length = ts.length := Paired.length h
abbrev T2 (e : Eqn) : HO := .tup [.int e.1, .int e.2]
def Eqs (H : Hp) : List Addr → List Eqn → Prop := Paired fun p e => H p = some (T2 e)
theorem Eqs.same {H H' : Hp} {ps : List Addr} {es : List Eqn} (h : Eqs H ps es) (s : Same H H') : Eqs H' ps es := Paired.imp' (fun _ _ c => s _ _ c) h
theorem Eqs.length {H : Hp} {ps : List Addr} {es : List Eqn} (h : Eqs H ps es) : ps.length = es.length := Paired.length h
theorem Eqs.get {H : Hp} : ∀ {ps : List Addr} {es : List Eqn} {i : Nat} {p : Addr}, Eqs H ps es → ps[i]? = some p → ∃ e, es[i]? = some e ∧ H p = some (T2 e)
  | p' :: ps, e :: es, 0, p, .cons a r, h => by
    have : p' = p := by simpa using h
    subst this
    exact ⟨e, rfl, a⟩
  | p' :: ps, e :: es, i + 1, p, .cons a r, h => by
    obtain ⟨f, b, c⟩ := Eqs.get (ps := ps) (es := es) (i := i) (p := p) r (by simpa using h)
    exact ⟨f, by simpa using b, c⟩
structure Fine (es : List Eqn) : Prop where
  bit : ∀ e ∈ es, e.2 < 2
  mask : ∀ e ∈ es, e.1 < 2 ^ 200
theorem comb_mask : ∀ (es : List Eqn) (c : Nat), (∀ e ∈ es, e.1 < 2 ^ 200) → (comb es c).1 < 2 ^ 200
  | [], _, _ => by unfold comb; exact Nat.two_pow_pos 200
  | e :: r, c, h => by
    have ih := comb_mask r (c / 2) fun f hf => h f (List.mem_cons_of_mem _ hf)
    unfold comb
    split
    · exact Nat.xor_lt_two_pow (h e List.mem_cons_self) ih
    · exact ih
def spOnes : Sp := fun vs H Q _ => ∃ n : Nat, vs = [.int n] ∧ Q (.int (pc n)) H
def spPlaces : Sp := fun vs H Q _ => ∃ c : Nat, vs = [.int c] ∧ c < 2 ^ 64 ∧ ∀ (l : Addr) (H' : Hp), Same H H' → H' l = some (.lst ((places c (bl c)).map fun p => V.int (p : Nat))) → Q (.ref l) H'
def spCleared : Sp := fun vs H Q _ => ∃ (p d : Addr) (t : Ent) (kvs : List (Key × V)) (ts : List Ent) (es : List Eqn) (i : Nat) (e : Eqn), vs = [.ref p, .ref d] ∧ H p = some (T3 t) ∧ H d = some (.dK kvs) ∧ Kept H kvs ts ∧ Fine es ∧ Good es i ts ∧ Left es i ts e t ∧
  ∀ (p' : Addr) (H' : Hp) (t' : Ent), Same H H' → H' p' = some (T3 t') → Left es i ts e t' → (∀ s ∈ ts, bl s.1 ≠ bl t'.1) → Q (.ref p') H'
section
variable {P : Program} {w : World} {K : PySem.W.Frag} {mg : Str → Option Value} {base : Heap} {k : Nat} {h : Heap}

theorem sc_ones : FnScope ["number", "many", "rest"] ["number"] (defScope (top 6)) := ⟨rfl, rfl, rfl, by decide +kernel, rfl, by decide +kernel, by decide +kernel⟩
theorem ok_ones (F : FunAt K "ones" (top 6) .none) (X : K.In h) (G : h.Ns mainGlobals mg) : Cal P w K mg base (k + 1) "ones" ["number"] spOnes := by
  have nd := sc_ones.nd
  refine F.cal X G sc_ones (bnd1 fun _ _ _ _ _ _ _ => rfl) (fun vs H Q E h => ?_) (fun f cdv A outer s H vs Q E hr h => ?_)
  · obtain ⟨n, rfl, _⟩ := h; rfl
  obtain ⟨n, rfl, q⟩ := h
  refine ⟨_, (@pss_cons _ _ _ _ _ (@ps_set _ _ 1 _ _ _ _ nd rfl (Or.inl rfl) pe_int rfl (.inl rfl))
    (@pss_cons _ _ _ _ _ (@ps_set _ _ 2 _ _ _ _ nd rfl (Or.inl rfl) (pv 0) rfl (.inl rfl))
    (@pss_cons _ _ _ _ _ (ps_while PassesOwn.never (pt_cmpR op_ne (pv 2) pe_int (nomark _))
      (@pss_cons _ _ _ _ _ (@ps_set _ _ 2 _ _ _ _ nd rfl (Or.inl rfl) (pe_op op_and (pv 2) (pe_op op_sub (pv 2) pe_int)) rfl (.inl rfl))
      (@pss_one _ _ _ (@ps_set _ _ 1 _ _ _ _ nd rfl (Or.inl rfl) (pe_op op_add (pv 1) pe_int) rfl (.inl rfl)))))
    (@pss_one _ _ _ (ps_ret (pv 1)))))), ?_⟩
  try dsimp only [cxK]
  refine ⟨_, rfl, fun m σ H' => H' = H ∧ ∃ j r : Nat, m = pc r ∧ j + pc r = pc n ∧ σ = [some (.int n), some (.int j), some (.int r)], ⟨_, rfl, 0, n, rfl, Nat.zero_add _, rfl⟩, ?_⟩
  rintro m σ H' ⟨rfl, j, r, rfl, hj, rfl⟩
  refine ⟨_, rfl, rfl, _, rfl, neI (fun hr0 => ?_) (fun hr0 => ?_)⟩
  · have r0 : r ≠ 0 := by omega
    have e := pc_drop (r + 1) r (by omega) r0
    refine ⟨_, fun σ' H' x => x, ?_⟩
    refine ⟨_, rfl, _, rfl, _, _, rfl, rfl, _, _, rfl, rfl, ?_⟩
    refine ⟨_, rfl, _, _, rfl, rfl, ⟨pc (r &&& (r - 1)), by omega, rfl, j + 1, r &&& (r - 1), rfl, by omega, ?_⟩⟩
    have e2 : Builtin.bitAnd (r : Int) ((r : Int) - 1) = ((r &&& (r - 1) : Nat) : Int) := by rw [show (r : Int) - 1 = ((r - 1 : Nat) : Int) by omega, and_i]
    show [some (V.int n), some (V.int ((j : Int) + 1)), some (V.int (Builtin.bitAnd (r : Int) ((r : Int) - 1)))] = _
    rw [e2]
    rfl
  · have r0 : r = 0 := by omega
    subst r0
    rw [pc_zero, Nat.add_zero] at hj
    subst hj
    exact ⟨_, rfl, q⟩

theorem sc_cleared : FnScope ["equation", "kept", "left", "other"] ["equation", "kept"] (defScope (top 15)) := ⟨rfl, rfl, rfl, by decide +kernel, rfl, by decide +kernel, by decide +kernel⟩
theorem ok_cleared (F : FunAt K "cleared" (top 15) .none) (X : K.In h) (G : h.Ns mainGlobals mg) : Cal P w K mg base (k + 1) "cleared" ["equation", "kept"] spCleared := by
  have nd := sc_cleared.nd
  refine F.cal X G sc_cleared (bnd2 fun _ _ _ _ _ _ _ _ => rfl) (fun vs H Q E h => ?_) (fun f cdv A outer s H vs Q E hr h => ?_)
  · obtain ⟨p, d, t, kvs, ts, es, i, e, rfl, _⟩ := h; rfl
  obtain ⟨p, d, t, kvs, ts, es, i, e, rfl, hp, hd, hk, fine, gd, lf, kq⟩ := h
  refine ⟨_, (@pss_cons _ _ _ _ _ (@ps_set _ _ 2 _ _ _ _ nd rfl (Or.inl rfl) (pv 0) rfl (.inl rfl))
    (@pss_cons _ _ _ _ _ (ps_while PassesOwn.never (pt_cmp (pc_din (hu_of hr) (pe_bm0 PySem.F.plainAttrs_int PySem.F.slot_int_bit_length PySem.F.type_int_bit_length mt_bitlen (pe_ix ix_tup (pv 2) pe_int (fun _ _ => rfl))) (pv 1)))
      (@pss_cons _ _ _ _ _ (@ps_set _ _ 3 _ _ _ _ nd rfl (Or.inl rfl) (pe_dget (hu_of hr) (pv 1) (pe_bm0 PySem.F.plainAttrs_int PySem.F.slot_int_bit_length PySem.F.type_int_bit_length mt_bitlen (pe_ix ix_tup (pv 2) pe_int (fun _ _ => rfl))) (fun _ _ => rfl)) rfl (.inl rfl))
      (@pss_one _ _ _ (@ps_set _ _ 2 _ _ _ _ nd rfl (Or.inl rfl) (@pe_tup _ _ _ _ _ (pa_cons (pe_op op_xor (pe_ix ix_tup (pv 2) pe_int (fun _ _ => rfl)) (pe_ix ix_tup (pv 3) pe_int (fun _ _ => rfl))) (pa_cons (pe_op op_xor (pe_ix ix_tup (pv 2) pe_int (fun _ _ => rfl)) (pe_ix ix_tup (pv 3) pe_int (fun _ _ => rfl))) (pa_cons (pe_op op_xor (pe_ix ix_tup (pv 2) pe_int (fun _ _ => rfl)) (pe_ix ix_tup (pv 3) pe_int (fun _ _ => rfl))) pa_nil)))) rfl (.inl rfl)))))
    (@pss_one _ _ _ (ps_ret (pv 2))))), ?_⟩
  try dsimp only [cxK]
  refine ⟨_, rfl, fun m σ H' => Same H H' ∧ ∃ (q : Addr) (u : Ent) (v : Option V), m = u.1 ∧ H' q = some (T3 u) ∧ Left es i ts e u ∧ σ = [some (.ref p), some (.ref d), some (.ref q), v], ⟨_, Same.refl _, p, t, none, rfl, hp, lf, rfl⟩, ?_⟩
  rintro m σ H1 ⟨s1, q, u, v, rfl, hq, lu, rfl⟩
  have S : ∀ {H'}, Same H1 H' → SqT K H' q [.int u.1, .int u.2.1, .int u.2.2] := fun z => SqT.of (z _ _ hq)
  have eb := bits_bl u.1
  refine ⟨_, rfl, q, _, _, _, rfl, rfl, S (Same.refl _), rfl, rfl, _, rfl, rfl, ?_⟩
  rw [eb]
  refine ⟨_, rfl, d, _, rfl, DGet.k (k := Sum.inl (bl u.1 : Int)) (s1 _ _ hd), _, rfl, ?_⟩
  cases hv : valV kvs (Sum.inl (bl u.1 : Int)) with
  | none =>
    refine iteF ⟨_, rfl, ?_⟩
    exact kq q H1 u s1 hq lu fun s hs z => hk.none hv s hs (by rw [z])
  | some x =>
    obtain ⟨t', ht, p', eh, rfl, hp'⟩ := hk.get hv
    have hp1 := s1 _ _ hp'
    have S' : ∀ {H'}, Same H1 H' → SqT K H' p' [.int t'.1, .int t'.2.1, .int t'.2.2] := fun z => SqT.of (z _ _ hp1)
    refine iteT ⟨_, fun σ' H' x => x, ?_⟩
    refine ⟨_, rfl, _, rfl, q, _, _, _, rfl, rfl, S (Same.refl _), rfl, rfl, _, rfl, rfl, ?_⟩
    rw [eb]
    refine ⟨d, _, rfl, (by rw [← hv]; exact DGet.k (k := Sum.inl (bl u.1 : Int)) (s1 _ _ hd)), ?_⟩
    refine ⟨_, rfl, q, _, _, _, rfl, rfl, S (Same.refl _), rfl, _, rfl, p', _, _, _, rfl, rfl, S' (Same.refl _), rfl, _, _, rfl, rfl, _, rfl, q, _, _, _, rfl, rfl, S (Same.refl _), rfl, _, rfl, p', _, _, _, rfl, rfl, S' (Same.refl _), rfl, _, _, rfl, rfl, _, rfl, q, _, _, _, rfl, rfl, S (Same.refl _), rfl, _, rfl, p', _, _, _, rfl, rfl, S' (Same.refl _), rfl, _, _, rfl, rfl, (by show 3 ≤ sizeLine; decide), fun r hr => ?_⟩
    have eh' : bl u.1 = bl t'.1 := (Int.ofNat.inj eh).symm
    have u0 : u.1 ≠ 0 := fun z => gd.nz t' ht (bl_zero.mp (by rw [← eh', z]; rfl))
    refine ⟨u.1 ^^^ t'.1, xor_less eh' u0, s1.trans (same_new hr _), r, (u.1 ^^^ t'.1, u.2.1 ^^^ t'.2.1, u.2.2 ^^^ t'.2.2), _, rfl, ?_, lu.step fine.bit gd ht, rfl⟩
    rw [upd_same]
    show some (HO.tup [.int (Builtin.bitXor (u.1 : Int) t'.1), .int (Builtin.bitXor (u.2.1 : Int) t'.2.1), .int (Builtin.bitXor (u.2.2 : Int) t'.2.2)]) = _
    rw [xor_i, xor_i, xor_i]
end
end K53

set_option maxHeartbeats 4000000
namespace K53
open PySem PySem.Spec PyProof.Rows L2 Pc K51
def spSolution : Sp := fun vs H Q _ => ∃ (d : Addr) (kvs : List (Key × V)) (ts : List Ent) (es : List Eqn) (i : Nat), vs = [.ref d] ∧ H d = some (.dK kvs) ∧ Kept H kvs ts ∧ Fine es ∧ Good es i ts ∧ i ≤ 60 ∧
  ∀ (x : Nat) (H' : Hp), Same H H' → (∀ t ∈ ts, sat x (eqOf t)) → Q (.int x) H'
def Told (es : List Eqn) (H : Hp) (r : Addr) : Prop := (∃ x : Nat, H r = some (.tup [.int x, .non]) ∧ ∀ e ∈ es, sat x e) ∨
  ∃ (c : Nat) (q : Addr), H r = some (.tup [.non, .ref q]) ∧ H q = some (.lst ((places c (bl c)).map fun p => V.int (p : Nat))) ∧ c < 2 ^ es.length ∧ comb es c = (0, 1)
def spSolved (K : PySem.W.Frag) : Sp := fun vs H Q _ => ∃ (l : Addr) (ps : List Addr) (es : List Eqn), vs = [.ref l] ∧ SqL K H l (ps.map V.ref) ∧ Eqs H ps es ∧ Fine es ∧ es.length ≤ 60 ∧
  ∀ (r : Addr) (H' : Hp), Same H H' → Told es H' r → Q (.ref r) H'
theorem or_i (x y : Nat) : Builtin.bitOr (x : Int) (y : Int) = ((x ||| y : Nat) : Int) := by
  have h : Builtin.bitXor (x : Int) (y : Int) = Builtin.bitOr x y - Builtin.bitAnd x y := rfl
  rw [xor_i, and_i] at h
  have e := or_eq (x + y + 1) x y (by omega) (by omega)
  omega
theorem and_v (x y : Nat) : [V.int (Builtin.bitAnd (x : Int) (y : Int))] = [V.int ((x &&& y : Nat) : Int)] := by rw [and_i]
theorem two_pos : (0 : Int) < 2 := by decide
theorem sz1 : Sz 1 1 := by decide +kernel
theorem Kept.upd {H : Hp} {d : Addr} {kv0 kv1 kvs : List (Key × V)} {ts : List Ent} (h : Kept H kvs ts) (hd : H d = some (.dK kv0)) : Kept (upd H d (.dK kv1)) kvs ts :=
  Paired.imp' (fun _ _ ⟨a, p, b, c⟩ => ⟨a, p, b, by rw [upd_ne (ne_of c hd (by intro z; cases z))]; exact c⟩) h
theorem t2 : 2 ≤ sizeLine := by decide
theorem four_pos : (0 : Int) < 4 := by decide
theorem s64 {n : Nat} (h : n ≤ 64) : n ≤ sizeLine := Nat.le_trans h (by decide)
section
variable {P : Program} {w : World} {K : PySem.W.Frag} {mg : Str → Option Value} {base : Heap} {k : Nat} {h : Heap}

theorem sc_places : FnScope ["number"] ["number"] (defScope (top 16)) := ⟨rfl, rfl, rfl, by decide +kernel, rfl, by decide +kernel, by decide +kernel⟩
theorem ok_places (F : FunAt K "places_at_one" (top 16) .none) (X : K.In h) (G : h.Ns mainGlobals mg) (B : Bs mg) : Cal P w K mg base (k + 1) "places_at_one" ["number"] spPlaces := by
  have nd := sc_places.nd
  refine F.cal X G sc_places (bnd1 fun _ _ _ _ _ _ _ => rfl) (fun vs H Q E h => ?_) (fun f cdv A outer s H vs Q E hr h => ?_)
  · obtain ⟨n, rfl, _⟩ := h; rfl
  obtain ⟨c, rfl, hc, kq⟩ := h
  have hb : bl c ≤ 64 := bl_le.mpr hc
  refine ⟨_, (@pss_one _ _ _ (ps_ret (pe_lcF rfl (LcOk.of (Nc := ["place", "number"]) (mp := [none, some 0]) (by kernel_rfl)) (pi_range1 rfl B.range (pa_cons (pe_bm0 PySem.F.plainAttrs_int PySem.F.slot_int_bit_length PySem.F.type_int_bit_length mt_bitlen (pv 0)) pa_nil)) (fun _ _ _ _ => (pg_name (i := 0) (show (["place", "number"] : List Str).Nodup by decide +kernel) rfl (Or.inl rfl))) (fun _ _ _ _ => (pt_truI (pe_op op_and (pe_op op_shr (pv 1) (pv 0)) pe_int) (by intro _; rfl))) (fun _ _ _ _ => (pv 0))))), ?_⟩
  try dsimp only [cxK]
  refine ⟨_, rfl, rfl, _, rfl, rfl, ?_⟩
  rw [bits_bl]
  refine ⟨_, rfl, by omega, by omega, fun acc hacc => ?_⟩
  rw [Int.toNat_natCast]
  refine lcF_range (n := bl c) (fr := [some (.int c)]) (fun i ys H' => Same H H' ∧ H' acc = some (.lst ys) ∧ ys = (places c i).map fun p => V.int (p : Nat)) (s64 hb) ⟨same_new hacc _, upd_same, rfl⟩ ?_ (fun hm z => ?_) ?_
  · rintro i ys H2 N hi hl ⟨s2, a2, rfl⟩ kN
    refine ⟨_, rfl, _, rfl, _, _, rfl, rfl, by omega, _, _, rfl, rfl, _, rfl, ?_⟩
    have e0 : (0 : Int) + (i : Int) = (i : Int) := Int.zero_add _
    have e1 : (c : Int) / 2 ^ (0 + (i : Int)).toNat = ((c / 2 ^ i : Nat) : Int) := by rw [e0, Int.toNat_natCast]; simp
    have e2 : Builtin.bitAnd ((c / 2 ^ i : Nat) : Int) 1 = ((c / 2 ^ i % 2 : Nat) : Int) := by
      have := and_i (c / 2 ^ i) 1
      rw [Nat.and_one_is_mod] at this
      exact this
    have ps := places_succ c i
    rw [e1, e2]
    refine kN _ _ (fun hb1 => ?_) (fun hb0 => ?_)
    · have h1 : c / 2 ^ i % 2 = 1 := by
        have : c / 2 ^ i % 2 ≠ 0 := fun z => by rw [z] at hb1; cases hb1
        omega
      rw [if_pos h1] at ps
      refine ⟨_, rfl, a2, same_upd s2 hacc, upd_same, ?_⟩
      rw [ps, List.map_append, e0]
      rfl
    · have h0 : ¬ c / 2 ^ i % 2 = 1 := fun z => by rw [z] at hb0; cases hb0
      rw [if_neg h0, List.append_nil] at ps
      exact ⟨s2, a2, by rw [ps]⟩
  · obtain ⟨v, e, q⟩ := z
    exact ⟨v, e, hm _ _ q⟩
  · rintro ys H2 ⟨s2, a2, rfl⟩
    exact kq acc H2 s2 a2

theorem sc_solution : FnScope ["kept", "x", "height", "equation"] ["kept"] (defScope (top 17)) := ⟨rfl, rfl, rfl, by decide +kernel, rfl, by decide +kernel, by decide +kernel⟩
theorem ok_solution (F : FunAt K "solution" (top 17) .none) (X : K.In h) (G : h.Ns mainGlobals mg) (B : Bs mg) (c_ones : Cal P w K mg base k "ones" ["number"] spOnes) : Cal P w K mg base (k + 1) "solution" ["kept"] spSolution := by
  have nd := sc_solution.nd
  refine F.cal X G sc_solution (bnd1 fun _ _ _ _ _ _ _ => rfl) (fun vs H Q E h => ?_) (fun f cdv A outer s H vs Q E hr h => ?_)
  · obtain ⟨d, kvs, ts, es, i, rfl, _⟩ := h; rfl
  obtain ⟨d, kvs, ts, es, i, rfl, hd, hk, fine, gd, hi, kq⟩ := h
  have hlen := hk.length
  have glen := gd.len
  refine ⟨_, (@pss_cons _ _ _ _ _ (@ps_set _ _ 1 _ _ _ _ nd rfl (Or.inl rfl) pe_int rfl (.inl rfl))
    (@pss_cons _ _ _ _ _ (ps_for PassesOwn.never rfl (pi_list (pe_callB (call_sortedK rfl) rfl B.sorted boot_sorted (pa_cons (pv 0) pa_nil))) (pg_name (i := 2) nd rfl (Or.inl rfl))
      (@pss_cons _ _ _ _ _ (@ps_set _ _ 3 _ _ _ _ nd rfl (Or.inl rfl) (pe_dget (hu_of hr) (pv 0) (pv 2) (fun _ _ => rfl)) rfl (.inl rfl))
      (@pss_one _ _ _ (ps_if (pt_cmpR op_ne (pe_op op_mod (pe_cal c_ones hr rfl (pa_cons (pe_op op_and (pe_ix ix_tup (pv 3) pe_int (fun _ _ => rfl)) (pv 1)) pa_nil)) pe_int) (pe_ix ix_tup (pv 3) pe_int (fun _ _ => rfl)) (nomark _))
        (@pss_one _ _ _ (@ps_set _ _ 1 _ _ _ _ nd rfl (Or.inl rfl) (pe_op op_or (pv 1) (pe_op op_shlS pe_int (pe_op op_sub (pv 2) pe_int))) rfl (.inl rfl)))
        pss_nil))))
    (@pss_one _ _ _ (ps_ret (pv 1))))), ?_⟩
  try dsimp only [cxK]
  refine ⟨_, rfl, d, kvs, _, rfl, hd, hk.keys, by omega, fun l ks hl perm srt => ?_⟩
  have S0 := same_new hl (.lst (ks.map V.int))
  have o := heights gd.nd perm srt
  refine ⟨l, rfl, ⟨_, SqL.of upd_same⟩, for_list (K := K) (a := l) (xs := ks.map V.int) (fun j σ H' => Same (upd H l (.lst (ks.map V.int))) H' ∧ ∃ (x : Nat) (v2 v3 : Option V), Sol ts ks j x ∧ σ = [some (.ref d), some (.int x), v2, v3]) ⟨Same.refl _, 0, none, none, Sol.start ts ks, rfl⟩ (fun j σ H' _ e => SqL.of (e.1 _ _ upd_same)) ?_ ?_⟩
  · rintro j xv σ H1 hx ⟨s1, x, v2, v3, S, rfl⟩
    rw [List.getElem?_map] at hx
    obtain ⟨hh, hj, rfl⟩ := Option.map_eq_some_iff.mp hx
    have hm : hh ∈ ts.map fun t => (bl t.1 : Int) := perm.mem_iff.mp (List.mem_of_getElem? hj)
    obtain ⟨t0, ht0, rfl⟩ := List.mem_map.mp hm
    have H1d := s1 _ _ (S0 _ _ hd)
    have hk1 := (hk.same S0).same s1
    cases hv : valV kvs (Sum.inl (bl t0.1 : Int)) with
    | none => exact absurd rfl (hk1.none hv t0 ht0)
    | some v =>
      obtain ⟨t, ht, p, eh, rfl, hp⟩ := hk1.get hv
      have hb : t.2.1 < 2 := by
        have : (eqOf t).2 < 2 := by rw [← gd.com t ht]; exact comb_bit es _ fine.bit
        exact this
      have hmask : t.1 < 2 ^ 200 := by
        have : (eqOf t).1 < 2 ^ 200 := by rw [← gd.com t ht]; exact comb_mask es _ fine.mask
        exact this
      have hbl : bl t.1 ≤ 200 := bl_le.mpr hmask
      have h0 : bl t.1 ≠ 0 := fun z => gd.nz t ht (bl_zero.mp z)
      rw [← eh] at hj hv ⊢
      have st := S.step gd.nd o ht (gd.nz t ht) hb hj
      have ST : SqT K H1 p [.int t.1, .int t.2.1, .int t.2.2] := SqT.of hp
      refine ⟨_, rfl, _, rfl, d, _, rfl, (by rw [← hv]; exact DGet.k (k := Sum.inl (bl t.1 : Int)) H1d), ?_⟩
      refine ⟨_, rfl, p, _, _, _, rfl, rfl, ST, rfl, _, rfl, _, _, rfl, rfl, t.1 &&& x, and_v _ _, _, _, rfl, rfl, two_pos, _, rfl, p, _, _, _, rfl, rfl, ST, rfl, rfl, _, rfl, neI (fun ne => ?_) (fun eq => ?_)⟩
      · have hn : ¬ sat x (eqOf t) := fun z => ne (by show ((pc (t.1 &&& x) : Nat) : Int) % 2 = (t.2.1 : Int); have : pc (t.1 &&& x) % 2 = t.2.1 := z; omega)
        refine ⟨_, rfl, _, rfl, _, _, rfl, rfl, _, _, rfl, rfl, ⟨1, sz1, by omega, by omega⟩, _, _, rfl, rfl, s1, x ||| 2 ^ (bl t.1 - 1), some (V.int (bl t.1 : Int)), some (V.ref p), st.2 hn, ?_⟩
        have e1 : (1 : Int) * 2 ^ ((bl t.1 : Int) - 1).toNat = ((2 ^ (bl t.1 - 1) : Nat) : Int) := by
          rw [show ((bl t.1 : Int) - 1).toNat = bl t.1 - 1 by omega]; simp
        show [some (V.ref d), some (V.int (Builtin.bitOr (x : Int) (1 * 2 ^ ((bl t.1 : Int) - 1).toNat))), some (V.int (bl t.1 : Int)), some (V.ref p)] = _
        rw [e1, or_i]
      · have hs : sat x (eqOf t) := by
          show pc (t.1 &&& x) % 2 = t.2.1
          have : ((pc (t.1 &&& x) : Nat) : Int) % 2 = (t.2.1 : Int) := eq
          omega
        exact ⟨s1, x, _, _, st.1 hs, rfl⟩
  · rintro σ H1 ⟨s1, x, v2, v3, S, rfl⟩
    rw [List.length_map] at S
    exact ⟨_, rfl, kq x H1 (S0.trans s1) (S.all perm)⟩

theorem sc_solved : FnScope ["equations", "kept", "place", "equation", "left"] ["equations"] (defScope (top 14)) := ⟨rfl, rfl, rfl, by decide +kernel, rfl, by decide +kernel, by decide +kernel⟩
theorem ok_solved (F : FunAt K "solved" (top 14) .none) (X : K.In h) (G : h.Ns mainGlobals mg) (B : Bs mg) (c_cleared : Cal P w K mg base k "cleared" ["equation", "kept"] spCleared) (c_places_at_one : Cal P w K mg base k "places_at_one" ["number"] spPlaces) (c_solution : Cal P w K mg base k "solution" ["kept"] spSolution) : Cal P w K mg base (k + 1) "solved" ["equations"] (spSolved K) := by
  have nd := sc_solved.nd
  refine F.cal X G sc_solved (bnd1 fun _ _ _ _ _ _ _ => rfl) (fun vs H Q E h => ?_) (fun f cdv A outer s H vs Q E hr h => ?_)
  · obtain ⟨l, ps, es, rfl, _⟩ := h; rfl
  obtain ⟨l, ps, es, rfl, hS, he, fine, h60, kq⟩ := h
  have hlen := he.length
  refine ⟨_, (@pss_cons _ _ _ _ _ (@ps_set _ _ 1 _ _ _ _ nd rfl (Or.inl rfl) pe_dnewK rfl (.inl rfl))
    (@pss_cons _ _ _ _ _ (ps_for PassesOwn.never rfl (pi_enum rfl B.enumerate (pa_cons (pv 0) pa_nil)) (@pg_tup _ _ _ _ _ _ rfl (@pgs_cons _ _ _ _ _ (@pg_name _ _ 2 _ nd rfl (Or.inl rfl) (by first | exact .inl rfl | exact .inr rfl)) (@pgs_cons _ _ _ _ _ (@pg_name _ _ 3 _ nd rfl (Or.inl rfl) (by first | exact .inl rfl | exact .inr rfl)) pgs_nil rfl) rfl) rfl rfl)
      (@pss_cons _ _ _ _ _ (@ps_set _ _ 4 _ _ _ _ nd rfl (Or.inl rfl) (pe_cal c_cleared hr rfl (pa_cons (@pe_tup _ _ _ _ _ (pa_cons (pe_ix ix_tup (pv 3) pe_int (fun _ _ => rfl)) (pa_cons (pe_ix ix_tup (pv 3) pe_int (fun _ _ => rfl)) (pa_cons (pe_op op_shlS pe_int (pv 2)) pa_nil)))) (pa_cons (pv 1) pa_nil))) rfl (.inl rfl))
      (@pss_one _ _ _ (ps_if (pt_cmpR op_ne (pe_ix ix_tup (pv 4) pe_int (fun _ _ => rfl)) pe_int (nomark _))
        (@pss_one _ _ _ (ps_dput (hu_of hr) (pv 1) (pe_bm0 PySem.F.plainAttrs_int PySem.F.slot_int_bit_length PySem.F.type_int_bit_length mt_bitlen (pe_ix ix_tup (pv 4) pe_int (fun _ _ => rfl))) (pv 4) rfl))
        (@pss_one _ _ _ (ps_if (pt_cmpR op_eq (pe_ix ix_tup (pv 4) pe_int (fun _ _ => rfl)) pe_int (nomark _))
          (@pss_one _ _ _ (ps_ret (@pe_tup _ _ _ _ _ (pa_cons pe_non (pa_cons (pe_cal c_places_at_one hr rfl (pa_cons (pe_ix ix_tup (pv 4) pe_int (fun _ _ => rfl)) pa_nil)) pa_nil)))))
          pss_nil))))))
    (@pss_one _ _ _ (ps_ret (@pe_tup _ _ _ _ _ (pa_cons (pe_cal c_solution hr rfl (pa_cons (pv 1) pa_nil)) (pa_cons pe_non pa_nil))))))), ?_⟩
  try dsimp only [cxK]
  refine fun d hd => ?_
  refine ⟨_, rfl, l, _, rfl, (same_new hd _).seq hS, for_enum (K := K) (a := l) (xs := ps.map V.ref) (fun i σ H' => Same H H' ∧ ∃ (kvs : List (Key × V)) (ts : List Ent) (v2 v3 v4 : Option V), H' d = some (.dK kvs) ∧ Kept H' kvs ts ∧ Good es i ts ∧ σ = [some (.ref l), some (.ref d), v2, v3, v4])
    ⟨same_new hd _, [], [], none, none, none, upd_same, .nil, Good.start es, rfl⟩ (fun i σ H' _ e => e.1.seq hS) ?_ ?_⟩
  · rintro i x σ H1 T hx ⟨s1, kvs, ts, v2, v3, v4, hd1, hk, gd, rfl⟩ hT
    rw [List.getElem?_map] at hx
    obtain ⟨p, hp, rfl⟩ := Option.map_eq_some_iff.mp hx
    obtain ⟨e, ei, hpe⟩ := he.get hp
    have ilt : i < es.length := (List.getElem?_eq_some_iff.mp ei).1
    have sT := same_new hT (.tup [.int i, .ref p])
    have hpe1 := sT _ _ (s1 _ _ hpe)
    have SP : SqT K (upd H1 T (.tup [.int i, .ref p])) p [.int e.1, .int e.2] := SqT.of hpe1
    refine ⟨T, _, rfl, SqT.of upd_same, rfl, _, _, rfl, _, _, rfl, rfl, ?_⟩
    refine ⟨_, rfl, p, _, _, _, rfl, rfl, SP, rfl, _, rfl, p, _, _, _, rfl, rfl, SP, rfl, _, rfl, _, _, rfl, rfl, ⟨1, sz1, by omega, by omega⟩, (by show 3 ≤ sizeLine; decide), fun r hr => ?_⟩
    have sr := same_new hr (.tup [.int e.1, .int e.2, .int ((1 : Int) * 2 ^ ((i : Int)).toNat)])
    have e1 : (1 : Int) * 2 ^ ((i : Int)).toNat = ((2 ^ i : Nat) : Int) := by simp
    have hrt : upd (upd H1 T (.tup [.int i, .ref p])) r (.tup [.int e.1, .int e.2, .int ((1 : Int) * 2 ^ ((i : Int)).toNat)]) r = some (T3 (e.1, e.2, 2 ^ i)) := by rw [upd_same, e1]
    refine ⟨_, rfl, r, d, (e.1, e.2, 2 ^ i), kvs, ts, es, i, e, rfl, hrt, sr _ _ (sT _ _ hd1), (hk.same sT).same sr, fine, gd, Left.start ei, fun p' H2 t s2 hp' lf apart => ?_⟩
    have sH2 := ((s1.trans sT).trans sr).trans s2
    have hd2 := s2 _ _ (sr _ _ (sT _ _ hd1))
    have hk2 := ((hk.same sT).same sr).same s2
    have SL : SqT K H2 p' [.int t.1, .int t.2.1, .int t.2.2] := SqT.of hp'
    refine ⟨_, rfl, p', _, _, _, rfl, rfl, SL, rfl, rfl, _, rfl, neI (fun ne => ?_) (fun eq => ?_)⟩
    · have t0 : t.1 ≠ 0 := fun z => ne (by rw [z]; rfl)
      refine ⟨_, rfl, _, rfl, _, rfl, p', _, _, _, rfl, rfl, SL, rfl, rfl, _, rfl, rfl, ?_⟩
      rw [bits_bl]
      have hn : valV kvs (Sum.inl (bl t.1 : Int)) = none := by
        cases hv : valV kvs (Sum.inl (bl t.1 : Int)) with
        | none => rfl
        | some v =>
          obtain ⟨u, hu, q, eh, _⟩ := hk2.get hv
          exact absurd (Int.ofNat.inj eh) (apart u hu)
      have hkl := hk.length
      have hgl := gd.len
      refine ⟨d, _, rfl, DPut.k (k := Sum.inl (bl t.1 : Int)) hd2 (Nat.lt_of_lt_of_le (show kvs.length < 64 by omega) (by decide)), same_upd sH2 hd, _, ts ++ [t], some (V.int i), some (V.ref p), some (V.ref p'), upd_same, ?_, gd.put ei lf t0 apart, rfl⟩
      rw [putK_new _ hn]
      exact (hk2.upd hd2).snoc (by rw [upd_ne (ne_of hp' hd2 (by intro z; cases z))]; exact hp')
    · have t0 : t.1 = 0 := Int.ofNat.inj eq
      have tb := lf.bit fine.bit
      refine ⟨_, rfl, p', _, _, _, rfl, rfl, SL, rfl, rfl, _, rfl, eqI (fun e1' => ?_) (fun e1' => ?_)⟩
      · have b1 : t.2.1 = 1 := Int.ofNat.inj e1'
        have clt : t.2.2 < 2 ^ es.length := Nat.lt_of_lt_of_le lf.lt (Nat.pow_le_pow_right (by decide) ilt)
        refine ⟨_, rfl, p', _, _, _, rfl, rfl, SL, rfl, t.2.2, rfl, Nat.lt_of_lt_of_le clt (Nat.pow_le_pow_right (by decide) (by omega)), fun ql H3 s3 hl3 => ⟨t2, fun rr hrr => ?_⟩⟩
        refine kq rr _ ((sH2.trans s3).trans (same_new hrr _)) (.inr ⟨t.2.2, ql, upd_same, same_new hrr _ _ _ hl3, clt, ?_⟩)
        rw [lf.com]
        show (t.1, t.2.1) = _
        rw [t0, b1]
      · have b0 : t.2.1 = 0 := by
          have : ¬ t.2.1 = 1 := fun z => e1' (by rw [z]; rfl)
          omega
        exact ⟨sH2, kvs, ts, some (V.int i), some (V.ref p), some (V.ref p'), hd2, hk2, gd.skip ei lf t0 b0, rfl⟩
  · rintro σ H1 ⟨s1, kvs, ts, v2, v3, v4, hd1, hk, gd, rfl⟩
    rw [List.length_map, hlen] at gd
    refine ⟨_, rfl, d, kvs, ts, es, es.length, rfl, hd1, hk, fine, gd, h60, fun x H2 s2 hs => ⟨t2, fun r hr => ?_⟩⟩
    refine kq r _ ((s1.trans s2).trans (same_new hr _)) (.inl ⟨x, upd_same, fun e he' => ?_⟩)
    obtain ⟨j, hj, rfl⟩ := List.mem_iff_getElem.mp he'
    exact gd.all x hs j _ hj (List.getElem?_eq_getElem hj)
end
end K53

set_option maxHeartbeats 4000000
namespace M54
open Pc K51
/-! rows of marks: the reckoning -/
def bit (v n : Nat) : Nat := v / 2 ^ n % 2
theorem bit_lt (v n : Nat) : bit v n < 2 := Nat.mod_lt _ (by decide)
theorem bit_succ (v n : Nat) : bit v (n + 1) = bit (v / 2) n := by
  unfold bit
  rw [Nat.pow_succ', Nat.div_div_eq_div_mul]
theorem bit_zero (n : Nat) : bit 0 n = 0 := by unfold bit; simp
theorem bit_xor : ∀ (n a b : Nat), bit (a ^^^ b) n = (bit a n + bit b n) % 2
  | 0, a, b => by
    have := nat_xor a b
    unfold bit
    simp only [Nat.pow_zero, Nat.div_one]
    omega
  | n + 1, a, b => by
    have := nat_xor a b
    rw [bit_succ, bit_succ, bit_succ, show (a ^^^ b) / 2 = a / 2 ^^^ b / 2 by omega]
    exact bit_xor n _ _
theorem eq_of_bits : ∀ (N a b : Nat), a < 2 ^ N → b < 2 ^ N → (∀ n, n < N → bit a n = bit b n) → a = b
  | 0, a, b, ha, hb, _ => by simp at ha hb; omega
  | N + 1, a, b, ha, hb, h => by
    rw [Nat.pow_succ'] at ha hb
    have h0 := h 0 (Nat.succ_pos N)
    unfold bit at h0
    simp only [Nat.pow_zero, Nat.div_one] at h0
    have := eq_of_bits N (a / 2) (b / 2) (by omega) (by omega) fun n hn => by rw [← bit_succ, ← bit_succ]; exact h (n + 1) (by omega)
    omega
theorem bit_low {a m n : Nat} (h : a < 2 ^ m) (hm : m ≤ n) : bit a n = 0 := by
  unfold bit
  rw [Nat.div_eq_of_lt (Nat.lt_of_lt_of_le h (Nat.pow_le_pow_right (by decide) hm))]
theorem bit_pow (m n : Nat) : bit (2 ^ m) n = if n = m then 1 else 0 := by
  unfold bit
  by_cases h : n = m
  · subst h; rw [if_pos rfl, Nat.div_self (Nat.two_pow_pos n)]
  · rw [if_neg h]
    rcases Nat.lt_or_ge n m with c | c
    · obtain ⟨d, rfl⟩ : ∃ d, m = n + (d + 1) := ⟨m - n - 1, by omega⟩
      rw [Nat.pow_add, Nat.mul_div_cancel_left _ (Nat.two_pow_pos n), Nat.pow_succ, Nat.mul_mod_left]
    · rw [Nat.div_eq_of_lt (Nat.pow_lt_pow_right (by decide) (by omega))]
theorem and_pow (x m : Nat) : x &&& 2 ^ m = bit x m * 2 ^ m := by
  refine Nat.eq_of_testBit_eq fun j => ?_
  rw [Nat.testBit_and, Nat.testBit_two_pow]
  by_cases q : m = j
  · subst q
    rw [Nat.testBit_eq_decide_div_mod_eq, Nat.testBit_eq_decide_div_mod_eq, Nat.mul_div_cancel _ (Nat.two_pow_pos m)]
    show (decide (bit x m = 1) && decide (m = m)) = decide (bit x m % 2 = 1)
    rw [Nat.mod_eq_of_lt (bit_lt x m)]
    simp
  · rcases (by have := bit_lt x m; omega : bit x m = 0 ∨ bit x m = 1) with z | z <;> rw [z] <;> simp [q]
theorem pc_top {a m x b : Nat} (ha : a < 2 ^ m) (hb : b < 2) : pc ((a + b * 2 ^ m) &&& x) % 2 = (pc (a &&& x) + b * bit x m) % 2 := by
  rcases (by omega : b = 0 ∨ b = 1) with rfl | rfl
  · simp
  · rw [Nat.one_mul, ← K51.xor_top ha, Nat.and_xor_distrib_right, pcx, Nat.and_comm (2 ^ m), and_pow]
    rcases (by have := bit_lt x m; omega : bit x m = 0 ∨ bit x m = 1) with z | z <;> rw [z]
    · rw [Nat.zero_mul, pc_zero, Nat.mul_zero]
    · rw [Nat.one_mul, pc_pow]
def Wm (fs : List Nat) (n : Nat) : Nat → Nat
  | 0 => 0
  | m + 1 => Wm fs n m + bit (fs.getD m 0) n * 2 ^ m
def Xm (fs : List Nat) (x : Nat) : Nat → Nat
  | 0 => 0
  | m + 1 => if bit x m = 1 then Xm fs x m ^^^ fs.getD m 0 else Xm fs x m
theorem Wm_lt (fs : List Nat) (n : Nat) : ∀ m, Wm fs n m < 2 ^ m
  | 0 => by unfold Wm; decide
  | m + 1 => by
    have h := Wm_lt fs n m
    have b := bit_lt (fs.getD m 0) n
    unfold Wm
    rw [Nat.pow_succ']
    rcases (by omega : bit (fs.getD m 0) n = 0 ∨ bit (fs.getD m 0) n = 1) with z | z <;> rw [z] <;> omega
theorem Xm_lt {fs : List Nat} {x N : Nat} (h : ∀ j, fs.getD j 0 < 2 ^ N) : ∀ m, Xm fs x m < 2 ^ N
  | 0 => by unfold Xm; exact Nat.two_pow_pos N
  | m + 1 => by
    unfold Xm
    split
    · exact Nat.xor_lt_two_pow (Xm_lt h m) (h m)
    · exact Xm_lt h m
theorem sat_x (fs : List Nat) (x n : Nat) : ∀ m, bit (Xm fs x m) n = pc (Wm fs n m &&& x) % 2
  | 0 => by unfold Xm Wm; rw [bit_zero, Nat.zero_and, pc_zero]
  | m + 1 => by
    have ih := sat_x fs x n m
    have bl := bit_lt x m
    unfold Xm Wm
    rw [pc_top (Wm_lt fs n m) (bit_lt _ _)]
    split
    · rename_i z
      rw [bit_xor, ih, z]
      omega
    · rename_i z
      rw [ih, show bit x m = 0 by omega]
      omega
theorem Wm_bit (fs : List Nat) (n : Nat) : ∀ m j, j < m → bit (Wm fs n m) j = bit (fs.getD j 0) n
  | 0, j, h => by omega
  | m + 1, j, h => by
    have hw := Wm_lt fs n m
    have b := bit_lt (fs.getD m 0) n
    unfold Wm
    rcases (by omega : bit (fs.getD m 0) n = 0 ∨ bit (fs.getD m 0) n = 1) with z | z
    · rw [z, Nat.zero_mul, Nat.add_zero]
      by_cases q : j = m
      · subst q; rw [z, bit_low hw (Nat.le_refl _)]
      · exact Wm_bit fs n m j (by omega)
    · rw [z, Nat.one_mul, ← K51.xor_top hw, bit_xor, bit_pow]
      by_cases q : j = m
      · subst q; rw [if_pos rfl, z, bit_low hw (Nat.le_refl _)]
      · rw [if_neg q, Wm_bit fs n m j (by omega), Nat.add_zero, Nat.mod_eq_of_lt (bit_lt _ _)]
theorem Wm_sum (fs : List Nat) (n : Nat) : ∀ m, m ≤ fs.length → ((fs.take m).mapIdx fun i v => ((bit v n : Nat) : Int) * 2 ^ i).sum = ((Wm fs n m : Nat) : Int)
  | 0, _ => by simp [Wm]
  | m + 1, h => by
    have ih := Wm_sum fs n m (by omega)
    have e : fs[m]? = some (fs.getD m 0) := by rw [List.getD_eq_getElem?_getD, List.getElem?_eq_getElem (by omega)]; rfl
    have l : (fs.take m).length = m := by rw [List.length_take]; omega
    unfold Wm
    rw [List.take_add_one, e, Option.toList_some, List.mapIdx_append, List.sum_append, ih, l]
    simp
def eqs (fs : List Nat) (v N : Nat) : List Eqn := (List.range N).map fun n => (Wm fs n fs.length, bit v n)
theorem eqs_len (fs : List Nat) (v N : Nat) : (eqs fs v N).length = N := by unfold eqs; simp
theorem comb_append : ∀ (l r : List Eqn) (c : Nat), comb (l ++ r) c = add (comb l c) (comb r (c / 2 ^ l.length))
  | [], r, c => by simp [comb, add]
  | e :: l, r, c => by
    have ih := comb_append l r (c / 2)
    have e1 : c / 2 / 2 ^ l.length = c / 2 ^ (e :: l).length := by rw [List.length_cons, Nat.pow_succ', Nat.div_div_eq_div_mul]
    show (if c % 2 = 1 then add e (comb (l ++ r) (c / 2)) else comb (l ++ r) (c / 2)) = add (if c % 2 = 1 then add e (comb l (c / 2)) else comb l (c / 2)) _
    rw [ih, e1]
    split
    · rw [add_assoc']
    · rfl
theorem eqs_succ (fs : List Nat) (v N : Nat) : eqs fs v (N + 1) = eqs fs v N ++ [(Wm fs N fs.length, bit v N)] := by
  unfold eqs; rw [List.range_succ, List.map_append]; rfl
theorem mod_succ (c N : Nat) : c % 2 ^ (N + 1) = c % 2 ^ N + bit c N * 2 ^ N := by rw [Nat.pow_succ, Nat.mod_mul]; unfold bit; rw [Nat.mul_comm (2 ^ N)]
theorem comb_one (e : Eqn) (c : Nat) : comb [e] c = if c % 2 = 1 then e else (0, 0) := by
  unfold comb comb
  split <;> simp [add]
theorem comb_two (fs : List Nat) (v c : Nat) : ∀ N, (comb (eqs fs v N) c).2 = pc (c % 2 ^ N &&& v) % 2
  | 0 => by simp [eqs, comb, Nat.mod_one, pc_zero]
  | N + 1 => by
    have ih := comb_two fs v c N
    have hb := bit_lt c N
    have hv := bit_lt v N
    rw [eqs_succ, comb_append, eqs_len, comb_one, mod_succ, pc_top (Nat.mod_lt _ (Nat.two_pow_pos N)) hb]
    show (comb (eqs fs v N) c).2 ^^^ (if c / 2 ^ N % 2 = 1 then (Wm fs N fs.length, bit v N) else (0, 0)).2 = _
    rw [ih]
    have nx := nat_xor (pc (c % 2 ^ N &&& v) % 2) (bit v N)
    have z1 : pc (c % 2 ^ N &&& v) % 2 / 2 = 0 := by omega
    have z2 : bit v N / 2 = 0 := by omega
    rw [z1, z2] at nx
    have q : (0 ^^^ 0 : Nat) = 0 := rfl
    rcases (by omega : bit c N = 0 ∨ bit c N = 1) with z | z
    · rw [if_neg (show ¬ c / 2 ^ N % 2 = 1 by have : c / 2 ^ N % 2 = 0 := z; omega), z]
      simp
    · rw [if_pos (show c / 2 ^ N % 2 = 1 from z), z]
      show _ ^^^ bit v N = _
      omega
theorem comb_fst (fs : List Nat) (v c j : Nat) (hj : j < fs.length) : ∀ N, bit (comb (eqs fs v N) c).1 j = pc (c % 2 ^ N &&& fs.getD j 0) % 2
  | 0 => by simp [eqs, comb, Nat.mod_one, pc_zero, bit_zero]
  | N + 1 => by
    have ih := comb_fst fs v c j hj N
    have hb := bit_lt c N
    have wb := Wm_bit fs N fs.length j hj
    rw [eqs_succ, comb_append, eqs_len, comb_one, mod_succ, pc_top (Nat.mod_lt _ (Nat.two_pow_pos N)) hb]
    show bit ((comb (eqs fs v N) c).1 ^^^ (if c / 2 ^ N % 2 = 1 then (Wm fs N fs.length, bit v N) else (0, 0)).1) j = _
    rw [bit_xor, ih]
    rcases (by omega : bit c N = 0 ∨ bit c N = 1) with z | z
    · rw [if_neg (show ¬ c / 2 ^ N % 2 = 1 by have : c / 2 ^ N % 2 = 0 := z; omega), z, bit_zero]
      omega
    · rw [if_pos (show c / 2 ^ N % 2 = 1 from z), z, wb]
      omega
abbrev Mk := Nat × Nat × Nat
def mul (a b : Mk) : Mk := ((a.1 + b.1 + 2 * pc (a.2.2 &&& b.2.1)) % 4, a.2.1 ^^^ b.2.1, a.2.2 ^^^ b.2.2)
def prod (ms : List Mk) : Mk := ms.foldl mul (0, 0, 0)
theorem mul_shift (k : Nat) : ∀ (ms : List Mk) (q f s : Nat), ms.foldl mul ((k + q) % 4, f, s) = ((k + (ms.foldl mul (q % 4, f, s)).1) % 4, (ms.foldl mul (q % 4, f, s)).2)
  | [], q, f, s => by
    show ((k + q) % 4, f, s) = ((k + q % 4) % 4, f, s)
    rw [Nat.add_mod_mod]
  | m :: ms, q, f, s => by
    rw [List.foldl_cons, List.foldl_cons]
    have h := mul_shift k ms (q + m.1 + 2 * pc (s &&& m.2.1)) (f ^^^ m.2.1) (s ^^^ m.2.2)
    have e1 : mul ((k + q) % 4, f, s) m = ((k + (q + m.1 + 2 * pc (s &&& m.2.1))) % 4, f ^^^ m.2.1, s ^^^ m.2.2) := by
      show (((k + q) % 4 + m.1 + 2 * pc (s &&& m.2.1)) % 4, _, _) = _
      congr 1
      omega
    have e2 : mul (q % 4, f, s) m = ((q + m.1 + 2 * pc (s &&& m.2.1)) % 4, f ^^^ m.2.1, s ^^^ m.2.2) := by
      show ((q % 4 + m.1 + 2 * pc (s &&& m.2.1)) % 4, _, _) = _
      congr 1
      omega
    rw [e1, e2]
    exact h
theorem prod_shift {k : Nat} (hk : k < 4) (ms : List Mk) : ms.foldl mul (k, 0, 0) = ((k + (prod ms).1) % 4, (prod ms).2) := by
  have := mul_shift k ms 0 0 0
  rw [Nat.add_zero, Nat.mod_eq_of_lt hk] at this
  exact this
theorem prod_lt : ∀ (ms : List Mk) (a : Mk), a.1 < 4 → (ms.foldl mul a).1 < 4
  | [], a, h => h
  | m :: ms, a, h => prod_lt ms (mul a m) (Nat.mod_lt _ (by decide))
def chosen (rows : List Mk) (x m : Nat) : List Mk := (places x m).map fun p => rows.getD p (0, 0, 0)
theorem chosen_succ (rows : List Mk) (x m : Nat) : chosen rows x (m + 1) = chosen rows x m ++ (if bit x m = 1 then [rows.getD m (0, 0, 0)] else []) := by
  unfold chosen
  rw [places_succ, List.map_append]
  show _ ++ List.map _ (if bit x m = 1 then [m] else []) = _
  split <;> rfl
theorem prod_f (rows : List Mk) (x : Nat) : ∀ m, (prod (chosen rows x m)).2.1 = Xm (rows.map (·.2.1)) x m
  | 0 => rfl
  | m + 1 => by
    have ih := prod_f rows x m
    rw [chosen_succ]
    unfold prod at *
    rw [List.foldl_append]
    unfold Xm
    split
    · show (mul _ _).2.1 = _
      show (List.foldl mul (0, 0, 0) (chosen rows x m)).2.1 ^^^ (rows.getD m (0, 0, 0)).2.1 = _
      rw [ih, List.getD_eq_getElem?_getD, List.getD_eq_getElem?_getD, List.getElem?_map]
      cases rows[m]? <;> rfl
    · exact ih
theorem prod_s (rows : List Mk) (x : Nat) : ∀ m, (prod (chosen rows x m)).2.2 = Xm (rows.map (·.2.2)) x m
  | 0 => rfl
  | m + 1 => by
    have ih := prod_s rows x m
    rw [chosen_succ]
    unfold prod at *
    rw [List.foldl_append]
    unfold Xm
    split
    · show (List.foldl mul (0, 0, 0) (chosen rows x m)).2.2 ^^^ (rows.getD m (0, 0, 0)).2.2 = _
      rw [ih, List.getD_eq_getElem?_getD, List.getD_eq_getElem?_getD, List.getElem?_map]
      cases rows[m]? <;> rfl
    · exact ih
end M54

set_option maxHeartbeats 4000000
/-! the keys of a dict, whatever they are: walked, and listed -/
namespace Dk
open PySem PySem.Spec PyProof.Rows
open Sem (wp)
def Raw (h : Heap) (d : Addr) (es : Array DictEntry) (ep : Nat) : Prop := ∃ o, h.get? d = some o ∧ o.ExactDict ∧ o.data = .dict es ep
theorem Raw.at {h h' : Heap} {d : Addr} {es : Array DictEntry} {ep : Nat} (x : Raw h d es ep) (e : ∀ o, h.get? d = some o → h'.get? d = some o) : Raw h' d es ep := let ⟨o, q, r⟩ := x; ⟨o, e o q, r⟩
theorem Raw.type {s : Shared} {d : Addr} {es : Array DictEntry} {ep : Nat} (x : Raw s.heap d es ep) : s.TypeIs (.ref d) "dict" := let ⟨o, q, r, _⟩ := x; ⟨o, q, r.1⟩
section
variable {prog : Program} {w : World} {A : Around} {E : Value → Shared → Prop} {s : Shared} {d it : Addr} {es : Array DictEntry} {i ep : Nat}
theorem iter {Q : Value → Shared → Prop} (lo : (d == sysModules) = false) (x : Raw s.heap d es ep) (q : Q (.ref s.heap.objs.size) { s with heap := s.heap.push { cls := .type "dict_keyiterator", data := .fields #[.ref d, .int 0 0, .int es.size 0, .int ep 0] } }) :
    wpAny (model prog w) A (pyIter (.ref d)) Q E s := by
  have ty := x.type
  obtain ⟨o, ho, hc, hd⟩ := x
  refine wpAny_pyIter_slot ty F.slot_dict_iter (wpAny_call_entry F.slot_dict_iter ty F.entry_dict_iter ?_ (F.args_dict_iter_1 _))
  unfold Builtin.«dict.__iter__» Builtin.Dict.dictSlotNone Builtin.Dict.showsAll
  refine wpAny_bind (wpAny_bind (wpAny_notOrdered_dict ty (wpAny_pure ?_))); refine wpAny_bind (m := Builtin.Dict.addrOf (Value.ref d)) (wpAny_pure ?_); rw [if_neg (show ¬ ((d == sysModules) = true) by rw [lo]; decide)]
  refine wpAny_bind (wpAny_pure (wpAny_bind (wpAny_dictEntries ho hd (wpAny_bind (wpAny_dictEpoch ho hd (wpAny_bind (wpAny_newObj_type (wpAny_pure ⟨_, rfl, "dict_keyiterator", _, ⟨_, Heap.get?_push_size _ rfl, rfl⟩, F.slot_dict_keyiterator_next.lookup, ?_⟩))))))))
  simpa [rawInt] using q
theorem step {Q : Option Value → Shared → Prop} (hh : es[i]? = none → A.handled = none) (hi : s.heap.IsKeyIter it d i es.size ep) (x : Raw s.heap d es ep)
    (go : ∀ (hlt : i < es.size) h', h'.IsKeyIter it d (i + 1) es.size ep → Heap.SameBut it s.heap h' → Q (some es[i].key) { s with heap := h' })
    (stop : ∀ h', es.size ≤ i → Heap.ExtBut it s.heap h' → Q none { s with heap := h' }) : wpAny (model prog w) A (pyNext (.ref it)) Q E s := by
  have ty := hi.typeIs
  obtain ⟨o, ho, hc, hd⟩ := id hi
  obtain ⟨od, hod, hcd, hdd⟩ := x
  unfold pyNext; refine wpAny_bind (wpAny_attempt (wpAny_callSpecial?_slot (name := Str.ofString "__next__") ty F.slot_dict_keyiterator_next (wpAny_call_entry F.slot_dict_keyiterator_next ty F.entry_dict_keyiterator_next ?_ (F.args_dict_keyiterator_next_1 _))))
  refine wpAny_bind (wpAny_pure (wpAny_bind (wpAny_bind ?_)))
  first | refine wpAny_bind (wpAny_typeNameOfWhole_keyiter ty (wpAny_pure (wpAny_bind (wpAny_fieldsOf ho hd ?_)))) | refine wpAny_bind (wpAny_typeNameOf_keyiter ty (wpAny_pure (wpAny_bind (wpAny_fieldsOf ho hd ?_))))
  simp only [show Builtin.Dict_items.ownsTuple "dict_keyiterator" = false by decide, Bool.false_eq_true, if_false]
  show wpAny _ _ (if (Value.ref d == Value.none) = true then _ else _) _ _ s; rw [if_neg (show ¬ ((Value.ref d == Value.none) = true) from Bool.false_ne_true)]
  refine wpAny_bind (wpAny_pure (wpAny_bind (wpAny_dictEntries hod hdd ?_))); rw [if_neg (by simp)]
  refine wpAny_bind (wpAny_pure (wpAny_bind (wpAny_dictEpoch hod hdd ?_))); rw [if_neg (by simp)]
  refine wpAny_pure ?_
  rcases Nat.lt_or_ge i es.size with c | c
  · simp only [show ¬ ((i : Int) < 0) by omega, if_false, Int.toNat_natCast, Array.getElem?_eq_getElem c]
    refine wpAny_bind ?_
    first | refine wpAny_bind (wpAny_typeNameOfWhole_keyiter ty (wpAny_pure (wpAny_bind (wpAny_isOneOf_keyiter ty ?_)))) | refine wpAny_bind (wpAny_typeNameOf_keyiter ty (wpAny_pure (wpAny_bind (wpAny_isOneOf_keyiter ty ?_))))
    show wpAny _ _ (setField (.ref it) 1 (rawInt ((i : Int) + 1)) >>= _) _ _ s; refine wpAny_bind (wpAny_setField ho hd (by simp) ?_)
    have h2 : (s.heap.update it (Obj.mapFields (·.setIfInBounds 1 (rawInt ((i : Int) + 1))))).IsKeyIter it d (i + 1) es.size ep := ⟨_, Heap.get?_update_self _ ho (Obj.isFreed_of_fields (Obj.data_mapFields hd _)), (Obj.cls_mapFields ..).trans hc, by rw [Obj.data_mapFields hd]; simp [rawInt]⟩
    refine wpAny_bind (wpAny_holding (wpAny_bind (wpAny_isOneOf_keyiter (s := { s with heap := s.heap.update it (Obj.mapFields (·.setIfInBounds 1 (rawInt ((i : Int) + 1)))) }) h2.typeIs ?_)))
    exact wpAny_pure (wpAny_pure ⟨_, rfl, wpAny_pure (go c _ h2 (Heap.SameBut.update ..))⟩)
  · have h0 := hh (Array.getElem?_eq_none c)
    simp only [show ¬ ((i : Int) < 0) by omega, if_false, Int.toNat_natCast, Array.getElem?_eq_none c]
    refine wpAny_bind ?_
    first | refine wpAny_bind (wpAny_typeNameOfWhole_keyiter ty (wpAny_pure ?_)) | refine wpAny_bind (wpAny_typeNameOf_keyiter ty (wpAny_pure ?_))
    show wpAny _ _ (setField (.ref it) 0 .none >>= _) _ _ s; refine wpAny_bind (wpAny_setField ho hd (by simp) ?_)
    show wpAny _ _ (newExc (.type "StopIteration") [] >>= _) _ _ _; refine wpAny_bind ?_
    simp only [newExc, newTuple]; refine wpAny_bind (wpAny_newObj_type ?_ (by size_fits)); refine wpAny_bind (m := firstArgMember _ _) (wpAny_of_eq (a := Value.none) (by first | rfl | (simp only [firstArgMember]; rfl)) ?_)
    refine wpAny_newObj_type ?_ (by size_fits); simp only [raiseNew]; refine wpAny_bind (wpAny_handled ?_); rw [show A.in1.handled = none from h0]
    refine wpAny_bind (wpAny_pure (wpAny_throw ?_)); refine wpAny_bind (wpAny_isInstance (T := "StopIteration") (b := true) ⟨_, Heap.get?_push_size _ rfl, rfl⟩ isSubtype_stop ?_)
    exact wpAny_pure (stop _ c (((Heap.SameBut.update ..).extBut.push _).push _))
theorem walks (hh : A.handled = none) (I d : Addr) (hne : d ≠ I) (es : Array DictEntry) (ep : Nat) :
    Walks prog w A I [I, d] [I] es.size (fun i v => ∃ e, es[i]? = some e ∧ v = e.key) (fun i h => h.IsKeyIter I d i es.size ep ∧ Raw h d es ep) where
  sub := fun b hb => by simp at hb; simp [hb]
  frame := fun _ _ _ st hk => ⟨st.1.at fun o e => hk I (by simp) o e, st.2.at fun o e => hk d (by simp) o e⟩
  item := fun i s Q E hi st hQ => step (fun _ => hh) st.1 st.2 (fun c h' k' sb => hQ _ h' s.toks ⟨es[i], by simp [c], rfl⟩ ⟨k', st.2.at fun o e => sb.extBut _ _ hne e⟩ fun b o hb e => sb.extBut b o (fun z => hb (by simp [z])) e) fun h' c _ => absurd hi (by omega)
  done := fun s Q E st hQ => step (fun _ => hh) st.1 st.2 (fun c => absurd c (Nat.lt_irrefl _)) fun h' c eb => hQ h' s.toks fun b o hb e => eb b o (fun z => hb (by simp [z])) e
  self := fun _ _ _ _ st hQ => wpAny_pyIter_keyiter st.1 hQ
theorem src (lo : (d == sysModules) = false) : PySem.W.KdlSrc prog w "dict" d d es.size (fun i v => ∃ e, es[i]? = some e ∧ v = e.key) (fun h => Raw h d es ep) where
  type := fun _ hm => hm.type
  there := fun _ hm => let ⟨_, ho, _⟩ := hm; ⟨Heap.lt_size ho, Heap.lt_size ho⟩
  keep := fun _ _ hm hk => hm.at fun o e => hk d (.inl rfl) o e
  notList := by decide
  notTuple := by decide
  hint := fun _ _ _ _ hm hq => PySem.W.kdl_hint_dict hm.type hq
  iter := fun _ s hh hm => ⟨_, _, (fun _ _ hq => iter lo hm hq), walks hh _ d (let ⟨_, ho, _⟩ := hm; Nat.ne_of_lt (Heap.lt_size ho)) es ep, ⟨⟨_, Heap.get?_push_size _ rfl, rfl, rfl⟩, hm.at fun o e => Heap.get?_push_of_some _ e⟩⟩
end
end Dk
namespace L2
open PySem PySem.Spec PyProof.Rows
theorem call_listT {X : Cx} (hc : X.calm = true) : CallR X (.type "list") (fun xs H Q => ∃ (p : Addr) (kvs : List (List Key × V)), xs = [.ref p] ∧ H p = some (.dT kvs) ∧
    ∀ (l : Addr) (bs : List Addr), H l = none → Paired (fun b (kv : List Key × V) => H b = some (.tup (kv.1.map kV))) bs kvs → Q (.ref l) (upd H l (.lst (bs.map V.ref)))) := by
  intro pins s σ H xs us Q I r h
  obtain ⟨p, kvs, rfl, hp, q⟩ := h
  obtain ⟨u, rfl, rx⟩ := vals1 r
  cases rx
  obtain ⟨z, lo, ks, rel, o, es, ep, ho, he, hd, hes, nd⟩ : kvs.length ≤ sizeLine ∧ (p == sysModules) = false ∧ ∃ xs : List (List Key × Addr × Value),
      Paired (fun (p : List Key × V) (q : List Key × Addr × Value) => p.1 = q.1 ∧ H q.2.1 = some (.tup (p.1.map kV)) ∧ RelV p.2 q.2.2) kvs xs ∧
      ∃ o es ep, s.heap.get? p = some o ∧ o.ExactDict ∧ o.data = .dict es ep ∧ es.toList = xs.map (entryOfKey (tupleKind (mixKind X.prog X.w))) ∧ (xs.map fun x : List Key × Addr × Value => x.1).Nodup := I.hok p _ hp
  have hl : kvs.length = ks.length := Paired.length rel
  have hsz : es.size = ks.length := by rw [← Array.length_toList, hes, List.length_map]
  refine PySem.W.kdl_call (Dk.src (es := es) (ep := ep) lo) (I.ok.hd hc) ⟨o, ho, he, hd⟩ (by omega) fun h' tk acc c hk hS hI => ?_
  have vals : ∀ (ks : List (List Key × Addr × Value)) (us : List Value), us.length = ks.length → (∀ (j : Nat) (u : Value), us[j]? = some u → ∃ k, ks[j]? = some k ∧ u = Value.ref k.2.1) → Vals ((ks.map fun k => k.2.1).map V.ref) us := by
    intro ks
    induction ks with
    | nil => intro us e _; cases us with
      | nil => exact .nil
      | cons => cases e
    | cons k ks ih => intro us e h; cases us with
      | nil => cases e
      | cons u us =>
        obtain ⟨k', e1, e2⟩ := h 0 u rfl
        cases e1
        exact .cons e2 (ih us (Nat.succ.inj e) fun j u hu => h (j + 1) u hu)
  have hal : acc.toList.length = ks.length := by rw [Array.length_toList, hI.1, hsz]
  have hv := vals ks acc.toList hal fun j u hu => by
    obtain ⟨e, e1, e2⟩ := hI.2 j u (by rw [← Array.getElem?_toList]; exact hu)
    rw [← Array.getElem?_toList, hes, List.getElem?_map] at e1
    obtain ⟨k, k1, k2⟩ := Option.map_eq_some_iff.mp e1
    exact ⟨k, k1, by rw [e2, ← k2]; rfl⟩
  have hto : (acc.toList).toArray = acc := Array.toArray_toList
  refine ⟨.ref s.heap.objs.size, _, I.laid (t' := tk) hk (Nat.le_refl _) (show ObjOk X.prog X.w _ _ _ (.lst ((ks.map fun k => k.2.1).map V.ref)) from ⟨by rw [List.length_map, List.length_map]; omega, acc.toList, c, hv, by rw [hto]; exact hS⟩), rfl, q _ _ (I.hok.fresh (Nat.le_refl _)) ?_⟩
  clear hv hal hes hsz hl nd q vals hp z
  induction rel with
  | nil => exact .nil
  | cons a _ ih => exact .cons a.2.1 ih
end L2

set_option maxHeartbeats 4000000
/-! {k: v}, k a tuple -/
namespace L2
open PySem PySem.Spec PyProof.Rows
def tDispT (tk tv : TE) : TE := fun σ H Q => ∀ p, H p = none → tPairs [(tk, tv)] σ (upd H p (.dT [])) fun ps H2 => H2 p = some (.dT []) ∧ ∃ (b : Addr) (k : List Key) (y : V), ps = [(.ref b, y)] ∧ H2 b = some (.tup (k.map kV)) ∧ Q (.ref p) (upd H2 p (.dT [(k, y)]))
theorem pe_dispT {X : Cx} {pos : Pos} {k v : Expr} {tk tv : TE} (hu : X.A.units + 1 < cLine) (hk : PE X k tk) (hv : PE X v tv) : PE X (.Dict [some k] [v] pos) (tDispT tk tv) := by
  intro pins s σ H Q I q
  have hn := I.hok.fresh (Nat.le_refl s.heap.objs.size)
  have I1 := I.laid (a := s.heap.objs.size) (o := .dT []) (h' := s.heap.push { cls := .type "dict", data := .dict #[] }) (t' := s.toks) (fun _ _ q => Heap.get?_push_of_some _ q) (Nat.le_refl _) (dt_empty s.heap I.big)
  have ev : PPs X pos [some k] [v] [(tk, tv)] := pps_cons hk hv pps_nil
  refine wpAny_Dict_any rfl rfl (by simp) (by show 1 ≤ 15; decide) (thn (ev pins _ σ _ _ I1 (q _ hn)) fun ws s2 ⟨ps, H2, I2, rel, e, b, kk, y, eps, eb, q2⟩ => ?_)
  · subst eps
    cases rel with
    | @cons _ w1 _ _ h1 t1 =>
      cases t1
      obtain ⟨u1, u2⟩ := w1
      cases (show u1 = Value.ref b from h1.1)
      obtain ⟨z, hd, xs, rl, dd⟩ := dt_of I2.hok e
      cases rl
      unfold storeAll
      rw [List.forIn_cons]; simp only [List.forIn_nil]
      refine wpAny_bind (wpAny_bind (wpAny_dictSet_heap (knd := tupleKind (mixKind X.prog X.w)) (show X.A.units < cLine from Nat.lt_of_succ_lt hu) (key_of I2.hok eb) dd (fun h' dd' hs => wpAny_pure (wpAny_pure ?_)) (Nat.zero_le _)))
      obtain ⟨o, es, ep, hq, h2, h3, h4, _, h5⟩ := dd'
      refine ⟨.ref s.heap.objs.size, _, d_write (ob := .dT [(kk, y)]) I2 (by rw [e]; exact True.intro) hs ⟨o, hq⟩ ⟨(by show 1 ≤ sizeLine; decide), hd, _, ?_, o, es, ep, hq, h2, h3, h4, h5⟩, rfl, q2⟩
      refine .cons ⟨rfl, ?_, h1.2⟩ .nil
      show upd H2 s.heap.objs.size _ b = _
      rw [upd_ne (ne_of eb e (fun z => nomatch z))]
      exact eb
end L2

set_option maxHeartbeats 4000000
/-! sums, blocks over enumerate, blocks with a test over a list -/
namespace L2
open PySem PySem.Spec PyProof.Rows
theorem call_sumL {X : Cx} (hc : X.calm = true) : CallR X (.builtin "sum") (fun xs H Q => ∃ (p : Addr) (ns : List Int), xs = [.ref p] ∧ SqL X.K H p (ns.map V.int) ∧ Q (.int ns.sum) H) := by
  intro pins s σ H xs us Q I r h
  obtain ⟨p, ns, rfl, hq, q⟩ := h
  obtain ⟨u, rfl, ru⟩ := r.one
  cases ru
  obtain ⟨its, rv, pl, hz⟩ := I.list hq
  have hi := intsAre_of rv
  have hl := pl.isList
  have hs := hi.numsOf
  obtain ⟨xs, e⟩ := hi.allInts.items
  have e2 : its = (intItems xs).toList := by rw [← e]
  rw [e] at hl
  rw [e2, nums_intItems] at hs
  refine sum_intListG (show X.A.handled = none from I.ok.hd hc) hl fun h' tk t' hk => ?_
  rw [preSum_eq, List.take_of_length_le (by simp), hs]
  exact ⟨.int ns.sum, H, I.kept (t' := tk) hk, ⟨_, rfl⟩, q⟩
theorem lc_enum {K : PySem.W.Frag} {l : Addr} {g : TG} {xs : List V} {te : TE} {fr : St} {H1 : Hp} {acc : Addr} {Q : VK} (f : Nat → V → V) (hn : xs.length ≤ sizeLine) (hacc : H1 acc = none) (hl : SqL K H1 l xs)
    (hg : ∀ {a : Addr} {x y : V} {w1 w2 : Option V} {H : Hp} {Q : St → Hp → Prop}, H a = some (.tup [x, y]) → Q (some x :: some y :: fr) H → g (.ref a) (w1 :: w2 :: fr) H Q)
    (hs : ∀ i x H (N : V → Hp → Prop), xs[i]? = some x → Same H1 H → N (f i x) H → te (some (.int i) :: some x :: fr) H N)
    (hd : ∀ H2, Same H1 H2 → H2 acc = some (.lst (xs.mapIdx f)) → Q (.ref acc) H2) : LcW (Ite K l) g te (none :: none :: fr) H1 acc Q := by
  refine ⟨fun i m zs σ2 H2 => m = xs.length - i ∧ i ≤ xs.length ∧ (∃ v w, σ2 = v :: w :: fr) ∧ Same H1 H2 ∧ H2 acc = some (.lst zs) ∧ zs = (xs.take i).mapIdx f, ⟨xs.length, by simp, Nat.zero_le _, ⟨_, _, rfl⟩, same_new hacc _, upd_same, by simp⟩, ?_⟩
  rintro i m zs σ2 H2 ⟨rfl, hi, ⟨v, w, rfl⟩, s2, a2, e2⟩
  by_cases hlt : i < xs.length
  · have e1 : xs[i]? = some xs[i] := by simp [hlt]
    refine .inr ⟨⟨xs, _, s2.seq hl, e1⟩, fun u H3 y3 => ?_⟩
    obtain ⟨T, x, rfl, hT, rfl, h1⟩ := y3
    have hx := h1 xs (s2.seq hl)
    have sT := same_new hT (.tup [.int i, x])
    have zl : zs.length = i := by rw [e2, List.length_mapIdx, List.length_take]; omega
    refine hg (x := .int i) (y := x) upd_same (hs i x _ _ hx (s2.trans sT) ⟨sT _ _ a2, by omega, xs.length - (i + 1), by omega, rfl, hlt, ⟨_, _, rfl⟩, same_upd (s2.trans sT) hacc, upd_same, ?_⟩)
    rw [List.take_add_one, hx, Option.toList_some, List.mapIdx_append, e2]
    have : (xs.take i).length = i := by rw [List.length_take]; omega
    simp [this]
  · have e : i = xs.length := by omega
    subst e
    exact .inl ⟨⟨xs, s2.seq hl, Nat.le_refl _⟩, hd H2 s2 (by rw [a2, e2, List.take_length])⟩
theorem lcF_ints {K : PySem.W.Frag} {l : Addr} {ns : List Int} {tc : TT} {te : TE} {fr : St} {H1 : Hp} {acc : Addr} {Q : VK} (p : Int → Bool) (f : Int → Int) (hn : ns.length ≤ sizeLine) (hacc : H1 acc = none) (hl : SqL K H1 l (ns.map V.int))
    (hs : ∀ n H (N : Bool → Hp → Prop), n ∈ ns → Same H1 H → N (p n) H → tc (some (.int n) :: fr) H N)
    (ht : ∀ n H (N : V → Hp → Prop), n ∈ ns → p n = true → Same H1 H → N (.int (f n)) H → te (some (.int n) :: fr) H N)
    (hd : ∀ H2, Same H1 H2 → H2 acc = some (.lst (((ns.filter p).map f).map V.int)) → Q (.ref acc) H2) : LcWF (Itl K l) (gName 0) tc te (none :: fr) H1 acc Q := by
  refine ⟨fun i m zs σ2 H2 => m = ns.length - i ∧ i ≤ ns.length ∧ (∃ v, σ2 = v :: fr) ∧ Same H1 H2 ∧ H2 acc = some (.lst zs) ∧ zs = (((ns.take i).filter p).map f).map V.int, ⟨ns.length, by simp, Nat.zero_le _, ⟨_, rfl⟩, same_new hacc _, upd_same, by simp⟩, ?_⟩
  rintro i m zs σ2 H2 ⟨rfl, hi, ⟨v, rfl⟩, s2, a2, e2⟩
  by_cases hlt : i < ns.length
  · have e1 : ns[i]? = some ns[i] := by simp [hlt]
    have e3 : (ns.map V.int)[i]? = some (.int ns[i]) := by rw [List.getElem?_map, e1]; rfl
    have zl : zs.length ≤ i := by
      rw [e2, List.length_map, List.length_map]
      exact Nat.le_trans (List.length_filter_le _ _) (by rw [List.length_take]; omega)
    have mem : ns[i] ∈ ns := List.getElem_mem hlt
    refine .inr ⟨⟨_, _, s2.seq hl, e3⟩, fun u H3 y3 => ?_⟩
    obtain ⟨rfl, y4⟩ := y3
    have := y4 _ (s2.seq hl)
    rw [e3] at this
    cases this
    refine hs ns[i] _ _ mem s2 ⟨fun hp => ht ns[i] _ _ mem hp s2 ⟨a2, by omega, ns.length - (i + 1), by omega, rfl, hlt, ⟨_, rfl⟩, same_upd s2 hacc, upd_same, ?_⟩, fun hp => ⟨ns.length - (i + 1), by omega, rfl, hlt, ⟨_, rfl⟩, s2, a2, ?_⟩⟩
    · rw [List.take_add_one, e1, Option.toList_some, List.filter_append, List.map_append, List.map_append, e2]
      simp [hp]
    · rw [List.take_add_one, e1, Option.toList_some, List.filter_append, List.map_append, List.map_append, e2]
      simp [hp]
  · have e : i = ns.length := by omega
    subst e
    exact .inl ⟨⟨_, s2.seq hl, by rw [List.length_map]; exact Nat.le_refl _⟩, hd H2 s2 (by rw [a2, e2, List.take_length])⟩
end L2

set_option maxHeartbeats 4000000
namespace K53
open PySem PySem.Spec PyProof.Rows L2 Pc K51 M54
def Mks (H : Hp) : List Addr → List Mk → Prop := Paired fun p m => H p = some (T3 m)
theorem Mks.same {H H' : Hp} {ps : List Addr} {ms : List Mk} (h : Mks H ps ms) (s : Same H H') : Mks H' ps ms := Paired.imp' (fun _ _ c => s _ _ c) h
theorem Mks.length {H : Hp} {ps : List Addr} {ms : List Mk} (h : Mks H ps ms) : ps.length = ms.length := Paired.length h
theorem Mks.get {H : Hp} : ∀ {ps : List Addr} {ms : List Mk} {i : Nat} {p : Addr}, Mks H ps ms → ps[i]? = some p → ∃ e, ms[i]? = some e ∧ H p = some (T3 e)
  | p' :: ps, e :: es, 0, p, .cons a r, h => by
    have : p' = p := by simpa using h
    subst this
    exact ⟨e, rfl, a⟩
  | p' :: ps, e :: es, i + 1, p, .cons a r, h => by
    obtain ⟨f, b, c⟩ := Mks.get (ps := ps) (ms := es) (i := i) (p := p) r (by simpa using h)
    exact ⟨f, by simpa using b, c⟩
theorem Mks.at {H : Hp} {ps : List Addr} {ms : List Mk} {i : Nat} (h : Mks H ps ms) (hi : i < ms.length) : ∃ p, ps[i]? = some p ∧ H p = some (T3 (ms.getD i (0, 0, 0))) := by
  have hl := h.length
  have e1 : ps[i]? = some (ps[i]'(by omega)) := by simp [show i < ps.length by omega]
  obtain ⟨e, e2, e3⟩ := h.get e1
  refine ⟨_, e1, ?_⟩
  rw [List.getD_eq_getElem?_getD, e2]
  exact e3
abbrev rowM (m : Mk) : List Int := [(m.1 : Int), (m.2.1 : Int), (m.2.2 : Int)]
theorem Mks.rows {H : Hp} : ∀ {ps : List Addr} {ms : List Mk}, Mks H ps ms → Rows5 H ps (ms.map rowM)
  | [], [], _ => .nil
  | _ :: _, _ :: _, .cons a r => .cons a (Mks.rows r)
abbrev L3 (m : Mk) : List V := [.int m.1, .int m.2.1, .int m.2.2]
def spProduct (K : PySem.W.Frag) : Sp := fun vs H Q _ => ∃ (p p' : Addr) (m m' : Mk), vs = [.ref p, .ref p'] ∧ SqT K H p (L3 m) ∧ SqT K H p' (L3 m') ∧ ∀ (r : Addr) (H' : Hp), Same H H' → H' r = some (T3 (mul m m')) → Q (.ref r) H'
def spProductOf (K : PySem.W.Frag) : Sp := fun vs H Q _ => ∃ (l : Addr) (ps : List Addr) (ms : List Mk), vs = [.ref l] ∧ SqL K H l (ps.map V.ref) ∧ Mks H ps ms ∧ ∀ (r : Addr) (H' : Hp), Same H H' → SqT K H' r (L3 (prod ms)) → Q (.ref r) H'
def spRowsWith (K : PySem.W.Frag) : Sp := fun vs H Q _ => ∃ (l : Addr) (ps : List Addr) (ms : List Mk) (pt : Int) (fs : List Nat) (n : Nat), vs = [.ref l, .int pt, .int n] ∧ SqL K H l (ps.map V.ref) ∧ Mks H ps ms ∧ ms.length ≤ 60 ∧
  (pt = 1 ∧ fs = ms.map (·.2.1) ∨ pt = 2 ∧ fs = ms.map (·.2.2)) ∧ ∀ H', Same H H' → Q (.int (Wm fs n fs.length : Nat)) H'
def spApart (K : PySem.W.Frag) : Sp := fun vs H Q _ => ∃ (l : Addr) (c n : Nat), vs = [.ref l, .int n] ∧ SqL K H l ((places c (bl c)).map fun p => V.int (p : Nat)) ∧ n ≤ 6 ∧ c < 2 ^ (n + n) ∧
  ∀ (r : Addr) (H' : Hp), Same H H' → H' r = some (T3 (pc (c / 2 ^ n &&& c % 2 ^ n) % 4, c / 2 ^ n, c % 2 ^ n)) → Q (.ref r) H'
theorem high_sum (c k : Nat) : ∀ N, ((((places c N).map fun p => ((p : Nat) : Int)).filter fun z : Int => decide ((k : Int) ≤ z)).map fun z : Int => (1 : Int) * 2 ^ (z - (k : Int)).toNat).sum = ((c % 2 ^ N / 2 ^ k : Nat) : Int)
  | 0 => by simp [places, Nat.mod_one]
  | N + 1 => by
    have ih := high_sum c k N
    have p := Nat.two_pow_pos k
    rw [places_succ, List.map_append, List.filter_append, List.map_append, List.sum_append, ih, mod_succ]
    show _ + ((((if bit c N = 1 then [N] else []).map fun p => ((p : Nat) : Int)).filter fun z : Int => decide ((k : Int) ≤ z)).map fun z : Int => (1 : Int) * 2 ^ (z - (k : Int)).toNat).sum = _
    have hl : c % 2 ^ N < 2 ^ N := Nat.mod_lt _ (Nat.two_pow_pos N)
    rcases (by have := bit_lt c N; omega : bit c N = 0 ∨ bit c N = 1) with z | z
    · rw [z]; simp
    · rw [z, if_pos rfl, Nat.one_mul]
      by_cases hk : k ≤ N
      · obtain ⟨d, rfl⟩ : ∃ d, N = k + d := ⟨N - k, by omega⟩
        have e : (c % 2 ^ (k + d) + 2 ^ (k + d)) / 2 ^ k = c % 2 ^ (k + d) / 2 ^ k + 2 ^ d := by rw [Nat.pow_add, Nat.add_mul_div_left _ _ p]
        rw [e]
        have hk2 : (k : Int) ≤ (k : Int) + d := by omega
        have e3 : ((k : Int) + d).toNat - k = d := by omega
        simp [hk2, e3]
      · have e : (c % 2 ^ N + 2 ^ N) / 2 ^ k = 0 := Nat.div_eq_of_lt (by
          have := Nat.pow_le_pow_right (show 0 < 2 by decide) (show N + 1 ≤ k by omega)
          rw [Nat.pow_succ'] at this
          omega)
        have e' : c % 2 ^ N / 2 ^ k = 0 := Nat.div_eq_of_lt (Nat.lt_trans hl (Nat.pow_lt_pow_right (by decide) (by omega)))
        rw [e, e']
        have nk : ¬ ((k : Int) ≤ N) := by omega
        simp [nk]
theorem low_sum (c k : Nat) : ∀ N, ((((places c N).map fun p => ((p : Nat) : Int)).filter fun z => decide (z < (k : Int))).map fun z => (1 : Int) * 2 ^ z.toNat).sum = ((c % 2 ^ N % 2 ^ k : Nat) : Int)
  | 0 => by simp [places, Nat.mod_one]
  | N + 1 => by
    have ih := low_sum c k N
    rw [places_succ, List.map_append, List.filter_append, List.map_append, List.sum_append, ih, mod_succ]
    show _ + ((((if bit c N = 1 then [N] else []).map fun p => ((p : Nat) : Int)).filter fun z => decide (z < (k : Int))).map fun z => (1 : Int) * 2 ^ z.toNat).sum = _
    have hl : c % 2 ^ N < 2 ^ N := Nat.mod_lt _ (Nat.two_pow_pos N)
    rcases (by have := bit_lt c N; omega : bit c N = 0 ∨ bit c N = 1) with z | z
    · rw [z]; simp
    · rw [z, if_pos rfl, Nat.one_mul]
      by_cases hk : k ≤ N
      · obtain ⟨d, rfl⟩ : ∃ d, N = k + d := ⟨N - k, by omega⟩
        have e : (c % 2 ^ (k + d) + 2 ^ (k + d)) % 2 ^ k = c % 2 ^ (k + d) % 2 ^ k := by rw [Nat.pow_add, Nat.add_mul_mod_self_left]
        rw [e]
        have nk : ¬ ((k : Int) + d < k) := by omega
        simp [nk]
      · have hp : 2 * 2 ^ N ≤ 2 ^ k := by
          have := Nat.pow_le_pow_right (show 0 < 2 by decide) (show N + 1 ≤ k by omega)
          rw [Nat.pow_succ'] at this
          exact this
        rw [Nat.mod_eq_of_lt (show c % 2 ^ N + 2 ^ N < 2 ^ k by omega), Nat.mod_eq_of_lt (show c % 2 ^ N < 2 ^ k by omega)]
        simp [show N < k by omega]
theorem ipow (n : Nat) : (1 : Int) * 2 ^ ((n : Int).toNat) = ((2 ^ n : Nat) : Int) := by simp
theorem t3 : 3 ≤ sizeLine := by decide
theorem one_and (x : Nat) : Builtin.bitAnd (x : Int) 1 = ((x % 2 : Nat) : Int) := by
  have := and_i x 1
  rw [Nat.and_one_is_mod] at this
  exact this
section
variable {P : Program} {w : World} {K : PySem.W.Frag} {mg : Str → Option Value} {base : Heap} {k : Nat} {h : Heap}
theorem sc_product : FnScope ["one", "other", "met"] ["one", "other"] (defScope (top 12)) := ⟨rfl, rfl, rfl, by decide +kernel, rfl, by decide +kernel, by decide +kernel⟩
theorem ok_product (F : FunAt K "product" (top 12) .none) (X : K.In h) (G : h.Ns mainGlobals mg) (c_ones : Cal P w K mg base k "ones" ["number"] spOnes) : Cal P w K mg base (k + 1) "product" ["one", "other"] (spProduct K) := by
  have nd := sc_product.nd
  refine F.cal X G sc_product (bnd2 fun _ _ _ _ _ _ _ _ => rfl) (fun vs H Q E h => ?_) (fun f cdv A outer s H vs Q E hr h => ?_)
  · obtain ⟨p, p', m, m', rfl, _⟩ := h; rfl
  obtain ⟨p, p', m, m', rfl, S1, S2, kq⟩ := h
  refine ⟨_, (@pss_cons _ _ _ _ _ (@ps_set _ _ 2 _ _ _ _ nd rfl (Or.inl rfl) (pe_cal c_ones hr rfl (pa_cons (pe_op op_and (pe_ix ix_tup (pv 0) pe_int (fun _ _ => rfl)) (pe_ix ix_tup (pv 1) pe_int (fun _ _ => rfl))) pa_nil)) rfl (.inl rfl))
    (@pss_one _ _ _ (ps_ret (@pe_tup _ _ _ _ _ (pa_cons (pe_op op_mod (pe_op op_add (pe_op op_add (pe_ix ix_tup (pv 0) pe_int (fun _ _ => rfl)) (pe_ix ix_tup (pv 1) pe_int (fun _ _ => rfl))) (pe_op op_mul pe_int (pv 2))) pe_int) (pa_cons (pe_op op_xor (pe_ix ix_tup (pv 0) pe_int (fun _ _ => rfl)) (pe_ix ix_tup (pv 1) pe_int (fun _ _ => rfl))) (pa_cons (pe_op op_xor (pe_ix ix_tup (pv 0) pe_int (fun _ _ => rfl)) (pe_ix ix_tup (pv 1) pe_int (fun _ _ => rfl))) pa_nil))))))), ?_⟩
  try dsimp only [cxK]
  refine ⟨_, rfl, p, _, _, _, rfl, rfl, S1, rfl, _, rfl, p', _, _, _, rfl, rfl, S2, rfl, _, _, rfl, rfl, m.2.2 &&& m'.2.1, and_v _ _, ?_⟩
  refine ⟨_, rfl, p, _, _, _, rfl, rfl, S1, rfl, _, rfl, p', _, _, _, rfl, rfl, S2, rfl, _, _, rfl, rfl, _, rfl, _, _, rfl, rfl, .inl ⟨by decide, by decide⟩, _, _, rfl, rfl, _, _, rfl, rfl, four_pos, ?_⟩
  refine ⟨_, rfl, p, _, _, _, rfl, rfl, S1, rfl, _, rfl, p', _, _, _, rfl, rfl, S2, rfl, _, _, rfl, rfl, _, rfl, p, _, _, _, rfl, rfl, S1, rfl, _, rfl, p', _, _, _, rfl, rfl, S2, rfl, _, _, rfl, rfl, t3, fun r hr => ?_⟩
  refine kq r _ (same_new hr _) ?_
  rw [upd_same]
  show some (HO.tup [.int (((m.1 : Int) + m'.1 + 2 * ((pc (m.2.2 &&& m'.2.1) : Nat) : Int)) % 4), .int (Builtin.bitXor (m.2.1 : Int) m'.2.1), .int (Builtin.bitXor (m.2.2 : Int) m'.2.2)]) = _
  rw [xor_i, xor_i]
  rfl
theorem sc_prodof : FnScope ["marks", "made", "mark"] ["marks"] (defScope (top 31)) := ⟨rfl, rfl, rfl, by decide +kernel, rfl, by decide +kernel, by decide +kernel⟩
theorem ok_prodof (F : FunAt K "product_of" (top 31) .none) (X : K.In h) (G : h.Ns mainGlobals mg) {aP : Addr} (gP : mg "PRODUCT_OF_NONE" = some (.ref aP)) (sP : ∀ H : Hp, SqT K H aP (L3 (0, 0, 0)))
    (c_product : Cal P w K mg base k "product" ["one", "other"] (spProduct K)) : Cal P w K mg base (k + 1) "product_of" ["marks"] (spProductOf K) := by
  have nd := sc_prodof.nd
  refine F.cal X G sc_prodof (bnd1 fun _ _ _ _ _ _ _ => rfl) (fun vs H Q E h => ?_) (fun f cdv A outer s H vs Q E hr h => ?_)
  · obtain ⟨l, ps, ms, rfl, _⟩ := h; rfl
  obtain ⟨l, ps, ms, rfl, hS, hm, kq⟩ := h
  have hlen := hm.length
  refine ⟨_, (@pss_cons _ _ _ _ _ (@ps_set _ _ 1 _ _ _ _ nd rfl (Or.inl rfl) (pe_glob (v := .ref aP) rfl gP rfl) rfl (.inl rfl))
    (@pss_cons _ _ _ _ _ (ps_for PassesOwn.never rfl (pi_list (pv 0)) (pg_name (i := 2) nd rfl (Or.inl rfl))
      (@pss_one _ _ _ (@ps_set _ _ 1 _ _ _ _ nd rfl (Or.inl rfl) (pe_cal c_product hr rfl (pa_cons (pv 1) (pa_cons (pv 2) pa_nil))) rfl (.inl rfl))))
    (@pss_one _ _ _ (ps_ret (pv 1))))), ?_⟩
  try dsimp only [cxK]
  refine ⟨_, rfl, l, rfl, ⟨_, hS⟩, for_list (K := K) (a := l) (xs := ps.map V.ref) (fun i σ H' => Same H H' ∧ ∃ (p : Addr) (v : Option V), SqT K H' p (L3 ((ms.take i).foldl mul (0, 0, 0))) ∧ σ = [some (.ref l), some (.ref p), v]) ⟨Same.refl _, aP, none, sP H, rfl⟩ (fun i σ H' _ e => e.1.seq hS) ?_ ?_⟩
  · rintro i x σ H1 hx ⟨s1, p, v, sp, rfl⟩
    rw [List.getElem?_map] at hx
    obtain ⟨p', hp', rfl⟩ := Option.map_eq_some_iff.mp hx
    obtain ⟨m, hmi, hpm⟩ := hm.get hp'
    refine ⟨_, rfl, _, rfl, p, p', _, m, rfl, sp, SqT.of (s1 _ _ hpm), fun r H2 s2 hr => ⟨s1.trans s2, r, _, ?_, rfl⟩⟩
    rw [List.take_add_one, hmi, Option.toList_some, List.foldl_append]
    exact SqT.of hr
  · rintro σ H1 ⟨s1, p, v, sp, rfl⟩
    rw [List.length_map, hlen, List.take_length] at sp
    exact ⟨_, rfl, kq p H1 s1 sp⟩
theorem sc_rowswith : FnScope ["rows", "part", "cell"] ["rows", "part", "cell"] (defScope (top 30)) := ⟨rfl, rfl, rfl, by decide +kernel, rfl, by decide +kernel, by decide +kernel⟩
theorem ok_rowswith (F : FunAt K "rows_with" (top 30) .none) (X : K.In h) (G : h.Ns mainGlobals mg) (B : Bs mg) : Cal P w K mg base (k + 1) "rows_with" ["rows", "part", "cell"] (spRowsWith K) := by
  have nd := sc_rowswith.nd
  refine F.cal X G sc_rowswith (bnd3 fun _ _ _ _ _ _ _ _ _ => rfl) (fun vs H Q E h => ?_) (fun f cdv A outer s H vs Q E hr h => ?_)
  · obtain ⟨l, ps, ms, pt, fs, n, rfl, _⟩ := h; rfl
  obtain ⟨l, ps, ms, pt, fs, n, rfl, hS, hm, h60, hpt, kq⟩ := h
  have hlen := hm.length
  have fl : fs.length = ms.length := by rcases hpt with ⟨_, rfl⟩ | ⟨_, rfl⟩ <;> exact List.length_map _
  refine ⟨_, (@pss_one _ _ _ (ps_ret (pe_callB (call_sumL rfl) rfl B.sum boot_sum (pa_cons (pe_lc rfl (LcOk.of (Nc := ["place", "row", "part", "cell"]) (mp := [none, none, some 1, some 2]) (by kernel_rfl)) (pi_enum rfl B.enumerate (pa_cons (pv 0) pa_nil)) (fun _ _ _ _ => (pg_pairC rfl (show (["place", "row", "part", "cell"] : List Str).Nodup by decide +kernel) rfl rfl rfl rfl)) (fun _ _ _ _ => (pe_op op_shlS (pe_op op_and (pe_op op_shr (pe_ix ix_tupC (pv 1) (pv 2) (fun _ _ => rfl)) (pv 3)) pe_int) (pv 0)))) pa_nil)))), ?_⟩
  try dsimp only [cxK]
  refine ⟨_, rfl, l, _, rfl, hS, fun acc hacc => ?_⟩
  refine lc_enum (l := l) (xs := ps.map V.ref) (fr := [some (.int pt), some (.int n)]) (fun i _ => .int (((bit (fs.getD i 0) n : Nat) : Int) * 2 ^ i)) (by rw [List.length_map]; exact s64 (by omega)) hacc hS (fun h q => ⟨_, _, rfl, SqT.of h, rfl, _, _, rfl, _, _, rfl, rfl, q⟩) ?_ ?_
  · intro i x H2 N hx s2 kN
    rw [List.getElem?_map] at hx
    obtain ⟨p', hp', rfl⟩ := Option.map_eq_some_iff.mp hx
    obtain ⟨m, hmi, hpm⟩ := hm.get hp'
    have ilt : i < ms.length := (List.getElem?_eq_some_iff.mp hmi).1
    have S : SqT K H2 p' (L3 m) := SqT.of (s2 _ _ hpm)
    have at' : atI (L3 m) pt = some (.int (fs.getD i 0 : Nat)) := by
      rcases hpt with ⟨rfl, rfl⟩ | ⟨rfl, rfl⟩ <;> rw [List.getD_eq_getElem?_getD, List.getElem?_map, hmi] <;> rfl
    have b2 := bit_lt (fs.getD i 0) n
    have e1 : ((fs.getD i 0 : Nat) : Int) / 2 ^ ((n : Int)).toNat = ((fs.getD i 0 / 2 ^ n : Nat) : Int) := by rw [Int.toNat_natCast]; simp
    refine ⟨_, rfl, _, rfl, p', _, _, _, rfl, rfl, S, at', _, rfl, _, _, rfl, rfl, by omega, _, _, rfl, rfl, _, rfl, ?_⟩
    show rI CShl (fun i j => V.int (i * 2 ^ j.toNat)) (V.int (Builtin.bitAnd (((fs.getD i 0 : Nat) : Int) / 2 ^ ((n : Int)).toNat) 1)) (V.int (i : Int)) H2 N
    rw [e1, one_and]
    refine ⟨_, _, rfl, rfl, ⟨1, ?_, by omega, by omega⟩, ?_⟩
    · show ((bit (fs.getD i 0) n : Nat) : Int).natAbs < 2 ^ 1
      omega
    · show N (.int (((bit (fs.getD i 0) n : Nat) : Int) * 2 ^ ((i : Int)).toNat)) H2
      rw [Int.toNat_natCast]
      exact kN
  · intro H2 s2 a2
    have e : ((ps.map V.ref).mapIdx fun i _ => V.int (((bit (fs.getD i 0) n : Nat) : Int) * 2 ^ i)) = (fs.mapIdx fun i v => ((bit v n : Nat) : Int) * 2 ^ i).map V.int := by
      apply List.ext_getElem
      · simp [hlen, fl]
      · intro i h1 h2
        simp only [List.length_map, List.length_mapIdx] at h2
        simp [h2]
    rw [e] at a2
    refine ⟨acc, _, rfl, SqL.of a2, ?_⟩
    have := Wm_sum fs n fs.length (Nat.le_refl _)
    rw [List.take_length] at this
    rw [this]
    exact kq H2 s2
theorem sc_apart : FnScope ["numbers", "cells", "flips", "signs"] ["numbers", "cells"] (defScope (top 32)) := ⟨rfl, rfl, rfl, by decide +kernel, rfl, by decide +kernel, by decide +kernel⟩
theorem ok_apart (F : FunAt K "apart_by" (top 32) .none) (X : K.In h) (G : h.Ns mainGlobals mg) (B : Bs mg) (c_ones : Cal P w K mg base k "ones" ["number"] spOnes) : Cal P w K mg base (k + 1) "apart_by" ["numbers", "cells"] (spApart K) := by
  have nd := sc_apart.nd
  refine F.cal X G sc_apart (bnd2 fun _ _ _ _ _ _ _ _ => rfl) (fun vs H Q E h => ?_) (fun f cdv A outer s H vs Q E hr h => ?_)
  · obtain ⟨l, c, n, rfl, _⟩ := h; rfl
  obtain ⟨l, c, n, rfl, hS, hn, hc, kq⟩ := h
  have em : ((places c (bl c)).map fun p => V.int (p : Nat)) = ((places c (bl c)).map fun p => ((p : Nat) : Int)).map V.int := by rw [List.map_map]; rfl
  rw [em] at hS
  have hb : bl c ≤ n + n := bl_le.mpr hc
  have hmem : ∀ z ∈ (places c (bl c)).map fun p => ((p : Nat) : Int), ∃ p : Nat, z = p ∧ p < 12 := fun z hz => by
    obtain ⟨p, hp, rfl⟩ := List.mem_map.mp hz
    exact ⟨p, rfl, by have := places_lt hp; omega⟩
  have hlen : ((places c (bl c)).map fun p => ((p : Nat) : Int)).length ≤ sizeLine := by
    rw [List.length_map]
    exact s64 (Nat.le_trans (List.length_filter_le _ _) (by rw [List.length_range]; omega))
  have hi := high_sum c n (bl c)
  have lo := low_sum c n (bl c)
  rw [Nat.mod_eq_of_lt (bl_lt c)] at hi lo
  generalize ((places c (bl c)).map fun p => ((p : Nat) : Int)) = ns at *
  refine ⟨_, (@pss_cons _ _ _ _ _ (@ps_set _ _ 2 _ _ _ _ nd rfl (Or.inl rfl) (pe_callB (call_sumL rfl) rfl B.sum boot_sum (pa_cons (pe_lcF rfl (LcOk.of (Nc := ["number", "cells"]) (mp := [none, some 1]) (by kernel_rfl)) (pi_list (pv 0)) (fun _ _ _ _ => (pg_name (i := 0) (show (["number", "cells"] : List Str).Nodup by decide +kernel) rfl (Or.inl rfl))) (fun _ _ _ _ => (pt_cmpR op_ge (pv 0) (pv 1) (nomark _))) (fun _ _ _ _ => (pe_op op_shlS pe_int (pe_op op_sub (pv 0) (pv 1))))) pa_nil)) rfl (.inl rfl))
    (@pss_cons _ _ _ _ _ (@ps_set _ _ 3 _ _ _ _ nd rfl (Or.inl rfl) (pe_callB (call_sumL rfl) rfl B.sum boot_sum (pa_cons (pe_lcF rfl (LcOk.of (Nc := ["number", "cells"]) (mp := [none, some 1]) (by kernel_rfl)) (pi_list (pv 0)) (fun _ _ _ _ => (pg_name (i := 0) (show (["number", "cells"] : List Str).Nodup by decide +kernel) rfl (Or.inl rfl))) (fun _ _ _ _ => (pt_cmpR op_lt (pv 0) (pv 1) (nomark _))) (fun _ _ _ _ => (pe_op op_shlS pe_int (pv 0)))) pa_nil)) rfl (.inl rfl))
    (@pss_one _ _ _ (ps_ret (@pe_tup _ _ _ _ _ (pa_cons (pe_op op_mod (pe_cal c_ones hr rfl (pa_cons (pe_op op_and (pv 2) (pv 3)) pa_nil)) pe_int) (pa_cons (pv 2) (pa_cons (pv 3) pa_nil)))))))), ?_⟩
  try dsimp only [cxK]
  refine ⟨_, rfl, l, rfl, ⟨_, hS⟩, fun acc hacc => ?_⟩
  refine lcF_ints (l := l) (ns := ns) (fr := [some (.int n)]) (fun z => decide ((n : Int) ≤ z)) (fun z => 1 * 2 ^ (z - n).toNat) hlen hacc hS (fun z H2 N _ _ kN => ⟨_, rfl, _, rfl, _, _, rfl, rfl, _, rfl, kN⟩) (fun z H2 N hz hp _ kN => ?_) ?_
  · obtain ⟨p, rfl, hp12⟩ := hmem z hz
    have hge := of_decide_eq_true hp
    exact ⟨_, rfl, _, rfl, _, _, rfl, rfl, _, _, rfl, rfl, ⟨1, sz1, by omega, by omega⟩, kN⟩
  intro H2 s2 a2
  refine ⟨acc, _, rfl, SqL.of a2, ?_⟩
  rw [hi]
  refine ⟨_, rfl, l, rfl, ⟨_, s2.seq hS⟩, fun acc' hacc' => ?_⟩
  refine lcF_ints (l := l) (ns := ns) (fr := [some (.int n)]) (fun z => decide (z < (n : Int))) (fun z => 1 * 2 ^ z.toNat) hlen hacc' (s2.seq hS) (fun z H2 N _ _ kN => ⟨_, rfl, _, rfl, _, _, rfl, rfl, _, rfl, kN⟩) (fun z H2 N hz hp _ kN => ?_) ?_
  · obtain ⟨p, rfl, hp12⟩ := hmem z hz
    exact ⟨_, rfl, _, _, rfl, rfl, ⟨1, sz1, by omega, by omega⟩, kN⟩
  intro H3 s3 a3
  refine ⟨acc', _, rfl, SqL.of a3, ?_⟩
  rw [lo]
  refine ⟨_, rfl, _, rfl, _, _, rfl, rfl, c / 2 ^ n &&& c % 2 ^ n, and_v _ _, _, _, rfl, rfl, four_pos, _, rfl, _, rfl, t3, fun r hr => ?_⟩
  refine kq r _ ((s2.trans s3).trans (same_new hr _)) ?_
  rw [upd_same]
  rfl
end
end K53

set_option maxHeartbeats 4000000
namespace K53
open PySem PySem.Spec PyProof.Rows L2 Pc K51 M54
def comm (a b : Mk) : Nat := (pc (a.2.1 &&& b.2.2) + pc (a.2.2 &&& b.2.1)) % 2
structure Okm (N : Nat) (m : Mk) : Prop where
  q : m.1 < 4
  f : m.2.1 < 2 ^ N
  s : m.2.2 < 2 ^ N
def MadeT (ms : List Mk) (mark : Mk) (N : Nat) (H0 H : Hp) (r : Addr) : Prop :=
  (∃ (kk x : Nat) (l : Addr), H0 l = none ∧ H r = some (.tup [.str "made", .int kk, .ref l]) ∧ H l = some (.lst ((places x ms.length).map fun p => V.int (p : Nat))) ∧ kk < 4 ∧ (chosen ms x ms.length).foldl mul (kk, 0, 0) = mark) ∨
  ∃ (p : Addr) (o : Mk), H r = some (.tup [.str "apart", .ref p]) ∧ H p = some (T3 o) ∧ Okm N o ∧ (o.1 + pc (o.2.1 &&& o.2.2)) % 2 = 0 ∧ comm o mark = 1 ∧ ∀ m ∈ ms, comm o m = 0
def spMadeOf (K : PySem.W.Frag) : Sp := fun vs H Q _ => ∃ (l pm : Addr) (ps : List Addr) (ms : List Mk) (mark : Mk) (N : Nat), vs = [.ref l, .ref pm, .int N] ∧ SqL K H l (ps.map V.ref) ∧ Mks H ps ms ∧ H pm = some (T3 mark) ∧ N ≤ 6 ∧ ms.length ≤ 12 ∧ (∀ m ∈ ms, Okm N m) ∧ Okm N mark ∧
  ∀ (r : Addr) (H' : Hp), Same H H' → MadeT ms mark N H H' r → Q (.ref r) H'
theorem Mks.pick {H : Hp} {ps : List Addr} {ms : List Mk} (h : Mks H ps ms) : ∀ (pl : List Nat), (∀ p ∈ pl, p < ms.length) → Mks H (pl.map fun p => ps.getD p 0) (pl.map fun p => ms.getD p (0, 0, 0))
  | [], _ => .nil
  | p :: pl, hp => by
    obtain ⟨a, e1, e2⟩ := h.at (hp p List.mem_cons_self)
    refine .cons ?_ (Mks.pick h pl fun q hq => hp q (List.mem_cons_of_mem _ hq))
    show H (ps.getD p 0) = _
    rw [List.getD_eq_getElem?_getD, e1]
    exact e2
theorem pair_append {α β : Type} {F : α → β → Prop} {l2 : List α} {r2 : List β} : ∀ {l1 : List α} {r1 : List β}, Paired F l1 r1 → Paired F l2 r2 → Paired F (l1 ++ l2) (r1 ++ r2)
  | [], [], _, h => h
  | _ :: _, _ :: _, .cons a t, h => .cons a (pair_append t h)
theorem getD_lt {ms : List Mk} {N : Nat} (h : ∀ m ∈ ms, Okm N m) (j : Nat) : (ms.map (·.2.1)).getD j 0 < 2 ^ N ∧ (ms.map (·.2.2)).getD j 0 < 2 ^ N := by
  rw [List.getD_eq_getElem?_getD, List.getD_eq_getElem?_getD, List.getElem?_map, List.getElem?_map]
  cases e : ms[j]? with
  | none => exact ⟨Nat.two_pow_pos N, Nat.two_pow_pos N⟩
  | some m => exact ⟨(h m (List.mem_of_getElem? e)).f, (h m (List.mem_of_getElem? e)).s⟩
abbrev both (ms : List Mk) (mark : Mk) (N : Nat) : List Eqn := eqs (ms.map (·.2.1)) mark.2.1 N ++ eqs (ms.map (·.2.2)) mark.2.2 N
theorem both_len (ms : List Mk) (mark : Mk) (N : Nat) : (both ms mark N).length = N + N := by rw [List.length_append, eqs_len, eqs_len]
theorem eqs_mem {fs : List Nat} {v N : Nat} {e : Eqn} (h : e ∈ eqs fs v N) : ∃ n, n < N ∧ e = (Wm fs n fs.length, bit v n) := by
  obtain ⟨n, hn, rfl⟩ := List.mem_map.mp h
  exact ⟨n, List.mem_range.mp hn, rfl⟩
theorem both_fine {ms : List Mk} {mark : Mk} {N : Nat} (h : ms.length ≤ 12) : Fine (both ms mark N) := by
  have key : ∀ e ∈ both ms mark N, e.2 < 2 ∧ e.1 < 2 ^ 12 := fun e he => by
    rcases List.mem_append.mp he with q | q <;> obtain ⟨n, _, rfl⟩ := eqs_mem q
    · exact ⟨bit_lt _ _, Nat.lt_of_lt_of_le (Wm_lt _ _ _) (Nat.pow_le_pow_right (by decide) (by rw [List.length_map]; exact h))⟩
    · exact ⟨bit_lt _ _, Nat.lt_of_lt_of_le (Wm_lt _ _ _) (Nat.pow_le_pow_right (by decide) (by rw [List.length_map]; exact h))⟩
  exact ⟨fun e he => (key e he).1, fun e he => Nat.lt_trans (key e he).2 (Nat.pow_lt_pow_right (by decide) (by decide))⟩
theorem both_sat {ms : List Mk} {mark : Mk} {N x : Nat} (hm : ∀ m ∈ ms, Okm N m) (hk : Okm N mark) (h : ∀ e ∈ both ms mark N, sat x e) : (prod (chosen ms x ms.length)).2 = mark.2 := by
  have g := getD_lt hm
  have hf : (prod (chosen ms x ms.length)).2.1 = mark.2.1 := by
    rw [prod_f]
    refine eq_of_bits N _ _ (Xm_lt (fun j => (g j).1) _) hk.f fun n hn => ?_
    have := h (Wm (ms.map (·.2.1)) n (ms.map (·.2.1)).length, bit mark.2.1 n) (List.mem_append_left _ (List.mem_map.mpr ⟨n, List.mem_range.mpr hn, rfl⟩))
    rw [List.length_map] at this
    rw [sat_x]
    exact this
  have hs : (prod (chosen ms x ms.length)).2.2 = mark.2.2 := by
    rw [prod_s]
    refine eq_of_bits N _ _ (Xm_lt (fun j => (g j).2) _) hk.s fun n hn => ?_
    have := h (Wm (ms.map (·.2.2)) n (ms.map (·.2.2)).length, bit mark.2.2 n) (List.mem_append_right _ (List.mem_map.mpr ⟨n, List.mem_range.mpr hn, rfl⟩))
    rw [List.length_map] at this
    rw [sat_x]
    exact this
  exact Prod.ext hf hs
theorem Eqs.upd {H : Hp} {l : Addr} {xs ys : List V} {ps : List Addr} {es : List Eqn} (h : Eqs H ps es) (hl : H l = some (.lst xs)) : Eqs (upd H l (.lst ys)) ps es :=
  Paired.imp' (fun _ _ c => by rw [upd_ne (ne_of c hl (by intro z; cases z))]; exact c) h
theorem xor01 {a b : Nat} (ha : a < 2) (hb : b < 2) : a ^^^ b = (a + b) % 2 := by
  have := nat_xor a b
  have z1 : a / 2 = 0 := by omega
  have z2 : b / 2 = 0 := by omega
  rw [z1, z2] at this
  have q : (0 ^^^ 0 : Nat) = 0 := rfl
  omega
theorem both_apart {ms : List Mk} {mark : Mk} {N c : Nat} (hc : c < 2 ^ (N + N)) (h : comb (both ms mark N) c = (0, 1)) :
    comm (pc (c / 2 ^ N &&& c % 2 ^ N) % 4, c / 2 ^ N, c % 2 ^ N) mark = 1 ∧ ∀ m ∈ ms, comm (pc (c / 2 ^ N &&& c % 2 ^ N) % 4, c / 2 ^ N, c % 2 ^ N) m = 0 := by
  rw [comb_append, eqs_len] at h
  have hd : c / 2 ^ N % 2 ^ N = c / 2 ^ N := Nat.mod_eq_of_lt (by rw [Nat.pow_add] at hc; exact Nat.div_lt_of_lt_mul hc)
  constructor
  · have h2 : (comb (eqs (ms.map (·.2.1)) mark.2.1 N) c).2 ^^^ (comb (eqs (ms.map (·.2.2)) mark.2.2 N) (c / 2 ^ N)).2 = 1 := congrArg Prod.snd h
    rw [comb_two, comb_two, hd, xor01 (Nat.mod_lt _ (by decide)) (Nat.mod_lt _ (by decide))] at h2
    unfold comm
    show (pc (c / 2 ^ N &&& mark.2.2) + pc (c % 2 ^ N &&& mark.2.1)) % 2 = 1
    omega
  · intro m hm
    obtain ⟨j, hj, rfl⟩ := List.mem_iff_getElem.mp hm
    have h1 : (comb (eqs (ms.map (·.2.1)) mark.2.1 N) c).1 ^^^ (comb (eqs (ms.map (·.2.2)) mark.2.2 N) (c / 2 ^ N)).1 = 0 := congrArg Prod.fst h
    have h3 : bit ((comb (eqs (ms.map (·.2.1)) mark.2.1 N) c).1 ^^^ (comb (eqs (ms.map (·.2.2)) mark.2.2 N) (c / 2 ^ N)).1) j = bit 0 j := by rw [h1]
    rw [M54.bit_xor, comb_fst _ _ _ _ (by rw [List.length_map]; exact hj), comb_fst _ _ _ _ (by rw [List.length_map]; exact hj), hd, bit_zero] at h3
    have e1 : (ms.map (·.2.1)).getD j 0 = ms[j].2.1 := by rw [List.getD_eq_getElem?_getD, List.getElem?_map, List.getElem?_eq_getElem hj]; rfl
    have e2 : (ms.map (·.2.2)).getD j 0 = ms[j].2.2 := by rw [List.getD_eq_getElem?_getD, List.getElem?_map, List.getElem?_eq_getElem hj]; rfl
    rw [e1, e2] at h3
    unfold comm
    show (pc (c / 2 ^ N &&& ms[j].2.2) + pc (c % 2 ^ N &&& ms[j].2.1)) % 2 = 0
    omega
section
variable {P : Program} {w : World} {K : PySem.W.Frag} {mg : Str → Option Value} {base : Heap} {k : Nat} {h : Heap}
theorem sc_madeof : FnScope ["rows", "mark", "cells", "flips", "signs", "told", "numbers", "made"] ["rows", "mark", "cells"] (defScope (top 29)) := ⟨rfl, rfl, rfl, by decide +kernel, rfl, by decide +kernel, by decide +kernel⟩
theorem ok_madeof (F : FunAt K "made_of" (top 29) .none) (X : K.In h) (G : h.Ns mainGlobals mg) (B : Bs mg) (c_rows_with : Cal P w K mg base k "rows_with" ["rows", "part", "cell"] (spRowsWith K)) (c_solved : Cal P w K mg base k "solved" ["equations"] (spSolved K))
    (c_apart_by : Cal P w K mg base k "apart_by" ["numbers", "cells"] (spApart K)) (c_product_of : Cal P w K mg base k "product_of" ["marks"] (spProductOf K)) : Cal P w K mg base (k + 1) "made_of" ["rows", "mark", "cells"] (spMadeOf K) := by
  have nd := sc_madeof.nd
  refine F.cal X G sc_madeof (bnd3 fun _ _ _ _ _ _ _ _ _ => rfl) (fun vs H Q E h => ?_) (fun f cdv A outer s H vs Q E hr h => ?_)
  · obtain ⟨l, pm, ps, ms, mark, N, rfl, _⟩ := h; rfl
  obtain ⟨l, pm, ps, ms, mark, N, rfl, hS, hm, hpm, hN, h12, oks, okk, kq⟩ := h
  have hlen := hm.length
  refine ⟨_, (@pss_cons _ _ _ _ _ (ps_setLc (i := 3) rfl nd rfl rfl (LcOk.of (Nc := ["cell", "rows", "mark"]) (mp := [none, some 0, some 1]) (by kernel_rfl)) (pi_range1 rfl B.range (pa_cons (pv 2) pa_nil)) (fun _ _ _ _ => (pg_name (i := 0) (show (["cell", "rows", "mark"] : List Str).Nodup by decide +kernel) rfl (Or.inl rfl))) (fun _ _ _ _ => (@pe_tup _ _ _ _ _ (pa_cons (pe_cal c_rows_with hr rfl (pa_cons (pv 1) (pa_cons pe_int (pa_cons (pv 0) pa_nil)))) (pa_cons (pe_op op_and (pe_op op_shr (pe_ix ix_tupC (pv 2) pe_int (fun _ _ => rfl)) (pv 0)) pe_int) pa_nil)))) rfl)
    (@pss_cons _ _ _ _ _ (ps_setLc (i := 4) rfl nd rfl rfl (LcOk.of (Nc := ["cell", "rows", "mark"]) (mp := [none, some 0, some 1]) (by kernel_rfl)) (pi_range1 rfl B.range (pa_cons (pv 2) pa_nil)) (fun _ _ _ _ => (pg_name (i := 0) (show (["cell", "rows", "mark"] : List Str).Nodup by decide +kernel) rfl (Or.inl rfl))) (fun _ _ _ _ => (@pe_tup _ _ _ _ _ (pa_cons (pe_cal c_rows_with hr rfl (pa_cons (pv 1) (pa_cons pe_int (pa_cons (pv 0) pa_nil)))) (pa_cons (pe_op op_and (pe_op op_shr (pe_ix ix_tupC (pv 2) pe_int (fun _ _ => rfl)) (pv 0)) pe_int) pa_nil)))) rfl)
    (@pss_cons _ _ _ _ _ (@ps_set _ _ 5 _ _ _ _ nd rfl (Or.inr rfl) (pe_cal c_solved hr rfl (pa_cons (pe_op op_cat (pv 3) (pv 4)) pa_nil)) rfl (.inl rfl))
    (@pss_cons _ _ _ _ _ (ps_if (pt_cmpR op_isN (pe_ix ix_tup (pv 5) pe_int (fun _ _ => rfl)) pe_non (nomark _))
      (@pss_one _ _ _ (ps_ret (@pe_tup _ _ _ _ _ (pa_cons pe_str (pa_cons (pe_cal c_apart_by hr rfl (pa_cons (pe_ix ix_tup (pv 5) pe_int (fun _ _ => rfl)) (pa_cons (pv 2) pa_nil))) pa_nil)))))
      pss_nil)
    (@pss_cons _ _ _ _ _ (ps_setLcF (i := 6) rfl nd rfl rfl (LcOk.of (Nc := ["place", "told"]) (mp := [none, some 5]) (by kernel_rfl)) (pi_range1 rfl B.range (pa_cons (pe_callB call_len_seq rfl B.len PySem.boot_len (pa_cons (pv 0) pa_nil)) pa_nil)) (fun _ _ _ _ => (pg_name (i := 0) (show (["place", "told"] : List Str).Nodup by decide +kernel) rfl (Or.inl rfl))) (fun _ _ _ _ => (pt_truI (pe_op op_and (pe_op op_shr (pe_ix ix_tupC (pv 1) pe_int (fun _ _ => rfl)) (pv 0)) pe_int) (by intro _; rfl))) (fun _ _ _ _ => (pv 0)) rfl)
    (@pss_cons _ _ _ _ _ (@ps_set _ _ 7 _ _ _ _ nd rfl (Or.inl rfl) (pe_cal c_product_of hr rfl (pa_cons (pe_lc rfl (LcOk.of (Nc := ["place", "rows"]) (mp := [none, some 0]) (by kernel_rfl)) (pi_list (pv 6)) (fun _ _ _ _ => (pg_name (i := 0) (show (["place", "rows"] : List Str).Nodup by decide +kernel) rfl (Or.inl rfl))) (fun _ _ _ _ => (pe_ix ix_listC (pv 1) (pv 0) (fun _ _ => rfl)))) pa_nil)) rfl (.inl rfl))
    (@pss_one _ _ _ (ps_ret (@pe_tup _ _ _ _ _ (pa_cons pe_str (pa_cons (pe_op op_mod (pe_op op_sub (pe_ix ix_tup (pv 1) pe_int (fun _ _ => rfl)) (pe_ix ix_tup (pv 7) pe_int (fun _ _ => rfl))) pe_int) (pa_cons (pv 6) pa_nil)))))))))))), ?_⟩
  try dsimp only [cxK]
  refine ⟨_, rfl, _, rfl, by omega, by omega, fun a1 ha1 => ?_⟩
  rw [Int.toNat_natCast]
  refine lc_range (n := N) (fr := [some (.ref l), some (.ref pm)]) (fun i ys H' => Same H H' ∧ H' a1 = some (.lst ys) ∧ ∃ qs : List Addr, ys = qs.map V.ref ∧ Eqs H' qs (eqs (ms.map (·.2.1)) mark.2.1 i)) (s64 (by omega)) ⟨same_new ha1 _, upd_same, [], rfl, .nil⟩ ?_ ?_
  · rintro i ys H2 NN hi hl ⟨s2, c2, qs, rfl, hq⟩ kN
    have e0 : (0 : Int) + (i : Int) = (i : Int) := Int.zero_add _
    refine ⟨_, rfl, _, rfl, l, ps, ms, 1, _, i, (by rw [e0]; rfl), s2.seq hS, hm.same s2, by omega, .inl ⟨rfl, rfl⟩, fun H3 s3 => ?_⟩
    have S3 : SqT K H3 pm (L3 mark) := SqT.of (s3 _ _ (s2 _ _ hpm))
    have e1 : (mark.2.1 : Int) / 2 ^ (0 + (i : Int)).toNat = ((mark.2.1 / 2 ^ i : Nat) : Int) := by rw [e0, Int.toNat_natCast]; simp
    refine ⟨_, rfl, pm, _, _, _, rfl, rfl, S3, rfl, _, rfl, _, _, rfl, rfl, by omega, _, _, rfl, rfl, t2, fun r hr => ?_⟩
    have sr := same_new hr (.tup [.int (Wm (ms.map (·.2.1)) i (ms.map (·.2.1)).length : Nat), .int (Builtin.bitAnd ((mark.2.1 : Int) / 2 ^ (0 + (i : Int)).toNat) 1)])
    have hn : a1 ≠ r := ne_of_none (s3 _ _ c2) hr
    refine kN _ _ (sr _ _ (s3 _ _ c2)) ⟨same_upd ((s2.trans s3).trans sr) ha1, upd_same, qs ++ [r], by rw [List.map_append]; rfl, ?_⟩
    rw [eqs_succ]
    refine Paired.snoc (((hq.same s3).same sr).upd (sr _ _ (s3 _ _ c2))) ?_
    rw [upd_ne (Ne.symm hn), upd_same]
    show some (HO.tup [.int _, .int (Builtin.bitAnd ((mark.2.1 : Int) / 2 ^ (0 + (i : Int)).toNat) 1)]) = _
    rw [e1, one_and]
    rfl
  rintro ys H1 hl1 ⟨S1, c1, qs1, rfl, hq1⟩
  refine ⟨_, rfl, _, rfl, by omega, by omega, fun a2 ha2 => ?_⟩
  rw [Int.toNat_natCast]
  refine lc_range (n := N) (fr := [some (.ref l), some (.ref pm)]) (fun i ys H' => Same H1 H' ∧ H' a2 = some (.lst ys) ∧ ∃ qs : List Addr, ys = qs.map V.ref ∧ Eqs H' qs (eqs (ms.map (·.2.2)) mark.2.2 i)) (s64 (by omega)) ⟨same_new ha2 _, upd_same, [], rfl, .nil⟩ ?_ ?_
  · rintro i ys H2 NN hi hl ⟨s2, c2, qs, rfl, hq⟩ kN
    have e0 : (0 : Int) + (i : Int) = (i : Int) := Int.zero_add _
    refine ⟨_, rfl, _, rfl, l, ps, ms, 2, _, i, (by rw [e0]; rfl), s2.seq (S1.seq hS), (hm.same S1).same s2, by omega, .inr ⟨rfl, rfl⟩, fun H3 s3 => ?_⟩
    have S3 : SqT K H3 pm (L3 mark) := SqT.of (s3 _ _ (s2 _ _ (S1 _ _ hpm)))
    have e1 : (mark.2.2 : Int) / 2 ^ (0 + (i : Int)).toNat = ((mark.2.2 / 2 ^ i : Nat) : Int) := by rw [e0, Int.toNat_natCast]; simp
    refine ⟨_, rfl, pm, _, _, _, rfl, rfl, S3, rfl, _, rfl, _, _, rfl, rfl, by omega, _, _, rfl, rfl, t2, fun r hr => ?_⟩
    have sr := same_new hr (.tup [.int (Wm (ms.map (·.2.2)) i (ms.map (·.2.2)).length : Nat), .int (Builtin.bitAnd ((mark.2.2 : Int) / 2 ^ (0 + (i : Int)).toNat) 1)])
    have hn : a2 ≠ r := ne_of_none (s3 _ _ c2) hr
    refine kN _ _ (sr _ _ (s3 _ _ c2)) ⟨same_upd ((s2.trans s3).trans sr) ha2, upd_same, qs ++ [r], by rw [List.map_append]; rfl, ?_⟩
    rw [eqs_succ]
    refine Paired.snoc (((hq.same s3).same sr).upd (sr _ _ (s3 _ _ c2))) ?_
    rw [upd_ne (Ne.symm hn), upd_same]
    show some (HO.tup [.int _, .int (Builtin.bitAnd ((mark.2.2 : Int) / 2 ^ (0 + (i : Int)).toNat) 1)]) = _
    rw [e1, one_and]
    rfl
  rintro ys H2 hl2 ⟨S2, c2, qs2, rfl, hq2⟩
  have S12 := S1.trans S2
  have lq1 := hq1.length
  have lq2 := hq2.length
  rw [eqs_len] at lq1 lq2
  refine ⟨_, rfl, _, rfl, a1, a2, _, _, rfl, rfl, S2 _ _ c1, c2, (by rw [List.length_map, List.length_map]; exact s64 (by omega)), fun cl hcl => ?_⟩
  have S3 := same_new hcl (.lst (qs1.map V.ref ++ qs2.map V.ref))
  refine ⟨cl, qs1 ++ qs2, both ms mark N, rfl, ?_, ?_, both_fine h12, by rw [both_len]; omega, fun rt H4 S4 told => ?_⟩
  · rw [List.map_append]; exact SqL.of upd_same
  · exact pair_append ((hq1.same S2).same S3) (hq2.same S3)
  have SS := S12.trans (S3.trans S4)
  rcases told with ⟨x, hr, hs⟩ | ⟨c, q, hr, hq, clt, hc⟩
  · have ST : SqT K H4 rt [.int x, .non] := SqT.of hr
    refine ⟨_, rfl, rt, _, _, _, rfl, rfl, ST, rfl, rfl, _, rfl, blI (fun z => absurd (of_decide_eq_true z) (by intro z; cases z)) (fun _ => ?_)⟩
    -- the numbers
    have lm : (ps.map V.ref).length = ms.length := by rw [List.length_map, hlen]
    refine ⟨_, rfl, l, _, rfl, .inl (SS.seq hS), _, rfl, by omega, by omega, fun a5 ha5 => ?_⟩
    rw [Int.toNat_natCast, lm]
    refine lcF_range (n := ms.length) (fr := [some (.ref rt)]) (fun i ys H' => Same H4 H' ∧ H' a5 = some (.lst ys) ∧ ys = (places x i).map fun p => V.int (p : Nat)) (s64 (by omega)) ⟨same_new ha5 _, upd_same, rfl⟩ ?_ (fun hm z => ?_) ?_
    · rintro i ys H5 NN hi hl ⟨s5, c5, rfl⟩ kN
      have e0 : (0 : Int) + (i : Int) = (i : Int) := Int.zero_add _
      have e1 : (x : Int) / 2 ^ (0 + (i : Int)).toNat = ((x / 2 ^ i : Nat) : Int) := by rw [e0, Int.toNat_natCast]; simp
      refine ⟨_, rfl, rt, _, _, _, rfl, rfl, SqT.of (s5 _ _ hr), rfl, _, rfl, _, _, rfl, rfl, by omega, _, _, rfl, rfl, _, rfl, ?_⟩
      have pss := places_succ x i
      show NN (Builtin.bitAnd ((x : Int) / 2 ^ (0 + (i : Int)).toNat) 1 != 0) H5
      rw [e1, one_and]
      refine kN _ _ (fun hb1 => ?_) (fun hb0 => ?_)
      · have h1 : x / 2 ^ i % 2 = 1 := by
          have : x / 2 ^ i % 2 ≠ 0 := fun z => by rw [z] at hb1; cases hb1
          omega
        rw [if_pos h1] at pss
        refine ⟨_, rfl, c5, same_upd s5 ha5, upd_same, ?_⟩
        rw [pss, List.map_append, e0]
        rfl
      · have h0 : ¬ x / 2 ^ i % 2 = 1 := fun z => by rw [z] at hb0; cases hb0
        rw [if_neg h0, List.append_nil] at pss
        exact ⟨s5, c5, by rw [pss]⟩
    · obtain ⟨v, e, qq⟩ := z
      exact ⟨v, e, hm _ _ qq⟩
    rintro ys H5 ⟨S5, c5, rfl⟩
    have S05 := SS.trans S5
    -- their product
    have em : ((places x ms.length).map fun p => V.int (p : Nat)) = ((places x ms.length).map fun p => ((p : Nat) : Int)).map V.int := by rw [List.map_map]; rfl
    have c5' := c5
    rw [em] at c5'
    have plen : (places x ms.length).length ≤ 12 := Nat.le_trans (List.length_filter_le _ _) (by rw [List.length_range]; exact h12)
    refine ⟨_, rfl, a5, rfl, ⟨_, SqL.of c5'⟩, fun a6 ha6 => ?_⟩
    refine lc_listM (ns := (places x ms.length).map fun p => ((p : Nat) : Int)) (fr := [some (.ref l)]) (fun z => .ref (ps.getD z.toNat 0)) (SqL.of c5') (by rw [List.length_map]; exact s64 (by omega)) ha6 (fun z H6 NN hz s6 kN => ?_) ?_
    · obtain ⟨p, hp, rfl⟩ := List.mem_map.mp hz
      obtain ⟨pa, e1, _⟩ := hm.at (places_lt hp)
      have eg : ps.getD p 0 = pa := by rw [List.getD_eq_getElem?_getD, e1]; rfl
      refine ⟨_, rfl, _, rfl, l, _, _, _, rfl, rfl, s6.seq (S05.seq hS), atI_nat (v := .ref pa) (by rw [List.getElem?_map, e1]; rfl), ?_⟩
      rw [Int.toNat_natCast, eg] at kN
      exact kN
    intro H6 S6 c6
    have S06 := S05.trans S6
    refine ⟨a6, (places x ms.length).map (fun p => ps.getD p 0), chosen ms x ms.length, rfl, ?_, (hm.same S06).pick _ (fun p hp => places_lt hp), fun rp H7 S7 sp => ?_⟩
    · rw [List.map_map] at c6
      rw [List.map_map]
      exact SqL.of c6
    have S07 := S06.trans S7
    have SM : SqT K H7 pm (L3 mark) := SqT.of (S07 _ _ hpm)
    have pq := prod_lt (chosen ms x ms.length) (0, 0, 0) (by decide)
    have bs := both_sat oks okk hs
    have qk := okk.q
    refine ⟨_, rfl, pm, _, _, _, rfl, rfl, SM, rfl, _, rfl, rp, _, _, _, rfl, rfl, sp, rfl, _, _, rfl, rfl, _, _, rfl, rfl, four_pos, _, rfl, t3, fun r hr7 => ?_⟩
    have e7 : (((mark.1 : Int) - ((prod (chosen ms x ms.length)).1 : Nat)) % 4) = (((((mark.1 : Int) - ((prod (chosen ms x ms.length)).1 : Nat)) % 4).toNat : Nat) : Int) := by omega
    refine kq r _ (S07.trans (same_new hr7 _)) (.inl ⟨(((mark.1 : Int) - ((prod (chosen ms x ms.length)).1 : Nat)) % 4).toNat, x, a5, SS.free ha5, ?_, same_new hr7 _ _ _ (S7 _ _ (S6 _ _ c5)), by omega, ?_⟩)
    · rw [upd_same]
      show some (HO.tup [.str "made", .int (((mark.1 : Int) - ((prod (chosen ms x ms.length)).1 : Nat)) % 4), .ref a5]) = _
      rw [← e7]
    · rw [prod_shift (by omega), bs]
      have pq' : (prod (chosen ms x ms.length)).1 < 4 := pq
      refine Prod.ext ?_ rfl
      show ((((mark.1 : Int) - ((prod (chosen ms x ms.length)).1 : Nat)) % 4).toNat + (prod (chosen ms x ms.length)).1) % 4 = mark.1
      omega
  · have ST : SqT K H4 rt [.non, .ref q] := SqT.of hr
    rw [both_len] at clt
    refine ⟨_, rfl, rt, _, _, _, rfl, rfl, ST, rfl, rfl, _, rfl, iteT ?_⟩
    refine ⟨_, rfl, rt, _, _, _, rfl, rfl, ST, rfl, _, rfl, q, c, N, rfl, SqL.of hq, hN, clt, fun ra H5 S5 ha => ⟨t2, fun r hr5 => ?_⟩⟩
    obtain ⟨b1, b2⟩ := both_apart clt hc
    refine kq r _ ((SS.trans S5).trans (same_new hr5 _)) (.inr ⟨ra, _, upd_same, same_new hr5 _ _ _ ha, ⟨Nat.mod_lt _ (by decide), ?_, Nat.mod_lt _ (Nat.two_pow_pos N)⟩, ?_, b1, b2⟩)
    · rw [Nat.pow_add] at clt; exact Nat.div_lt_of_lt_mul clt
    · show (pc (c / 2 ^ N &&& c % 2 ^ N) % 4 + pc (c / 2 ^ N &&& c % 2 ^ N)) % 2 = 0
      omega
end
end K53

set_option maxHeartbeats 4000000
namespace K53
open PySem PySem.Spec PyProof.Rows L2 Pc K51 M54
theorem kit_ll (K : PySem.W.Frag) : PySem.W.kitOne K (.type "list") (.type "list") = some true := by unfold PySem.W.kitOne; rw [if_pos (by decide)]
theorem kit_tt (K : PySem.W.Frag) : PySem.W.kitOne K (.type "tuple") (.type "tuple") = some true := by unfold PySem.W.kitOne; rw [if_pos (by decide)]
def cell (ns : List Int) (i : Int) : Int := if i < ns.length then ns.getD i.toNat 0 else 0
def spCell (K : PySem.W.Frag) : Sp := fun vs H Q _ => ∃ (a : Addr) (ns : List Int) (i : Int), vs = [.ref a, .int i] ∧ SqL K H a (ns.map V.int) ∧ 0 ≤ i ∧ Q (.int (cell ns i)) H
def spWhole : Sp := fun vs H Q _ => ∃ i : Int, vs = [.int i] ∧ Q (.bl true) H
def spCommute (K : PySem.W.Frag) : Sp := fun vs H Q _ => ∃ (p p' : Addr) (m m' : Mk), vs = [.ref p, .ref p'] ∧ SqT K H p (L3 m) ∧ SqT K H p' (L3 m') ∧ Q (.bl (decide (comm m m' = 0))) H
def spEvenMark : Sp := fun vs H Q _ => ∃ (c : Int) (N : Nat), vs = [.int c, .int N] ∧ N ≤ 6 ∧ ∀ (r : Addr) (H' : Hp) (m : Mk), Same H H' → H' r = some (T3 m) → Okm N m → (m.1 + pc (m.2.1 &&& m.2.2)) % 2 = 0 → Q (.ref r) H'
theorem p15 : (0 : Int) < 10 ^ (15 : Int).toNat := by decide
theorem cp15 : CPow 10 15 := ⟨by decide, by decide, by decide⟩
theorem nat_of {i : Int} (h : 0 ≤ i) : ∃ n : Nat, i = n := ⟨i.toNat, by omega⟩
section
variable {P : Program} {w : World} {K : PySem.W.Frag} {mg : Str → Option Value} {base : Heap} {k : Nat} {h : Heap}
theorem at_map {ns : List Int} {i : Int} (h0 : 0 ≤ i) (h : i < ns.length) : atI (ns.map V.int) i = some (.int (ns.getD i.toNat 0)) := by
  have hk : i.toNat < ns.length := by omega
  have ek : i = ((i.toNat : Nat) : Int) := by omega
  have q : atI (ns.map V.int) ((i.toNat : Nat) : Int) = some (.int ns[i.toNat]) := atI_nat (by rw [List.getElem?_map, List.getElem?_eq_getElem hk] <;> rfl)
  rw [← ek] at q
  rw [q, List.getD_eq_getElem?_getD, List.getElem?_eq_getElem hk]
  rfl
theorem sc_cell : FnScope ["_law_script", "_law_k"] ["_law_script", "_law_k"] (defScope (top 34)) := ⟨rfl, rfl, rfl, by decide +kernel, rfl, by decide +kernel, by decide +kernel⟩
theorem ok_cell (F : FunAt K "_law_cell_at" (top 34) .none) (X : K.In h) (G : h.Ns mainGlobals mg) (B : Bs mg) : Cal P w K mg base (k + 1) "_law_cell_at" ["_law_script", "_law_k"] (spCell K) := by
  have nd := sc_cell.nd
  refine F.cal X G sc_cell (bnd2 fun _ _ _ _ _ _ _ _ => rfl) (fun vs H Q E h => ?_) (fun f cdv A outer s H vs Q E hr h => ?_)
  · obtain ⟨a, ns, i, rfl, _⟩ := h; rfl
  obtain ⟨a, ns, i, rfl, hS, h0, q⟩ := h
  refine ⟨_, (@pss_cons _ _ _ _ _ (ps_if (pt_cmpR op_lt (pv 1) (pe_callB call_len_seq rfl B.len PySem.boot_len (pa_cons (pv 0) pa_nil)) (nomark _))
      (@pss_one _ _ _ (ps_ret (pe_ix ix_list (pv 0) (pv 1) (fun _ _ => rfl))))
      pss_nil)
    (@pss_one _ _ _ (ps_ret pe_int))), ?_⟩
  try dsimp only [cxK]
  have hl : (ns.map V.int).length = ns.length := List.length_map _
  refine ⟨_, rfl, _, rfl, a, _, rfl, .inl hS, _, _, rfl, rfl, _, rfl, decI (fun c => ?_) (fun c => ?_)⟩
  · rw [hl] at c
    refine ⟨_, rfl, _, rfl, a, _, _, _, rfl, rfl, hS, at_map h0 c, ?_⟩
    unfold cell at q
    rw [if_pos c] at q
    exact q
  · rw [hl] at c
    unfold cell at q
    rw [if_neg c] at q
    exact q
theorem sc_whole : FnScope ["_law_found"] ["_law_found"] (defScope (top 35)) := ⟨rfl, rfl, rfl, by decide +kernel, rfl, by decide +kernel, by decide +kernel⟩
theorem ok_whole (F : FunAt K "_law_whole" (top 35) .none) (X : K.In h) (G : h.Ns mainGlobals mg) (B : Bs mg) : Cal P w K mg base (k + 1) "_law_whole" ["_law_found"] spWhole := by
  have nd := sc_whole.nd
  refine F.cal X G sc_whole (bnd1 fun _ _ _ _ _ _ _ => rfl) (fun vs H Q E h => ?_) (fun f cdv A outer s H vs Q E hr h => ?_)
  · obtain ⟨i, rfl, _⟩ := h; rfl
  obtain ⟨i, rfl, q⟩ := h
  refine ⟨_, (@pss_one _ _ _ (ps_ret (pe_and (pe_callB call_isinst rfl B.isinstance boot_isinstance (pa_cons (pv 0) (pa_cons (pe_bltn (v := .ty "int") rfl B.int boot_int rfl) pa_nil))) (pe_one (pe_not (pe_callB call_isinst rfl B.isinstance boot_isinstance (pa_cons (pv 0) (pa_cons (pe_bltn (v := .ty "bool") rfl B.bool boot_bool rfl) pa_nil)))))))), ?_⟩
  try dsimp only [cxK]
  refine ⟨_, rfl, _, _, _, true, rfl, TyOf.int i, kit_ii K, _, rfl, iteT ?_⟩
  exact ⟨_, rfl, _, _, _, false, rfl, TyOf.int i, kit_ib K, _, rfl, q⟩
theorem sc_lones : FnScope ["_law_number", "_law_found"] ["_law_number"] (defScope (top 36)) := ⟨rfl, rfl, rfl, by decide +kernel, rfl, by decide +kernel, by decide +kernel⟩
theorem ok_lones (F : FunAt K "_law_ones" (top 36) .none) (X : K.In h) (G : h.Ns mainGlobals mg) : Cal P w K mg base (k + 1) "_law_ones" ["_law_number"] spOnes := by
  have nd := sc_lones.nd
  refine F.cal X G sc_lones (bnd1 fun _ _ _ _ _ _ _ => rfl) (fun vs H Q E h => ?_) (fun f cdv A outer s H vs Q E hr h => ?_)
  · obtain ⟨n, rfl, _⟩ := h; rfl
  obtain ⟨n, rfl, q⟩ := h
  refine ⟨_, (@pss_cons _ _ _ _ _ (@ps_set _ _ 1 _ _ _ _ nd rfl (Or.inl rfl) pe_int rfl (.inl rfl))
    (@pss_cons _ _ _ _ _ (ps_while PassesOwn.never (pt_cmpR op_gt (pv 0) pe_int (nomark _))
      (@pss_cons _ _ _ _ _ (@ps_set _ _ 1 _ _ _ _ nd rfl (Or.inl rfl) (pe_op op_add (pv 1) (pe_op op_mod (pv 0) pe_int)) rfl (.inl rfl))
      (@pss_one _ _ _ (@ps_set _ _ 0 _ _ _ _ nd rfl (Or.inl rfl) (pe_op op_fdiv (pv 0) pe_int) rfl (.inl rfl)))))
    (@pss_one _ _ _ (ps_ret (pv 1))))), ?_⟩
  try dsimp only [cxK]
  refine ⟨fun m σ H' => H' = H ∧ ∃ j : Nat, j + pc m = pc n ∧ σ = [some (.int m), some (.int j)], ⟨n, rfl, 0, Nat.zero_add _, rfl⟩, ?_⟩
  rintro m σ H' ⟨rfl, j, hj, rfl⟩
  refine ⟨_, rfl, _, _, rfl, rfl, _, rfl, decI (fun hr0 => ?_) (fun hr0 => ?_)⟩
  · have hm : 0 < m := by omega
    have e := pc_half m
    refine ⟨_, fun σ' H' x => x, ?_⟩
    refine ⟨_, rfl, _, rfl, _, _, rfl, rfl, two_pos, _, _, rfl, rfl, ?_⟩
    refine ⟨_, rfl, _, _, rfl, rfl, ⟨by decide, by decide⟩, ⟨m / 2, by omega, rfl, j + m % 2, by omega, rfl⟩⟩
  · have r0 : m = 0 := by omega
    subst r0
    rw [pc_zero, Nat.add_zero] at hj
    subst hj
    exact ⟨_, rfl, q⟩
theorem sc_lproduct : FnScope ["_law_one", "_law_other_here", "_law_turns"] ["_law_one", "_law_other_here"] (defScope (top 37)) := ⟨rfl, rfl, rfl, by decide +kernel, rfl, by decide +kernel, by decide +kernel⟩
theorem ok_lproduct (F : FunAt K "_law_product" (top 37) .none) (X : K.In h) (G : h.Ns mainGlobals mg) (c__law_ones : Cal P w K mg base k "_law_ones" ["_law_number"] spOnes) : Cal P w K mg base (k + 1) "_law_product" ["_law_one", "_law_other_here"] (spProduct K) := by
  have nd := sc_lproduct.nd
  refine F.cal X G sc_lproduct (bnd2 fun _ _ _ _ _ _ _ _ => rfl) (fun vs H Q E h => ?_) (fun f cdv A outer s H vs Q E hr h => ?_)
  · obtain ⟨p, p', m, m', rfl, _⟩ := h; rfl
  obtain ⟨p, p', m, m', rfl, S1, S2, kq⟩ := h
  refine ⟨_, (@pss_cons _ _ _ _ _ (@ps_set _ _ 2 _ _ _ _ nd rfl (Or.inl rfl) (pe_op op_add (pe_op op_add (pe_ix ix_tup (pv 0) pe_int (fun _ _ => rfl)) (pe_ix ix_tup (pv 1) pe_int (fun _ _ => rfl))) (pe_op op_mul pe_int (pe_cal c__law_ones hr rfl (pa_cons (pe_op op_and (pe_ix ix_tup (pv 0) pe_int (fun _ _ => rfl)) (pe_ix ix_tup (pv 1) pe_int (fun _ _ => rfl))) pa_nil)))) rfl (.inl rfl))
    (@pss_one _ _ _ (ps_ret (@pe_tup _ _ _ _ _ (pa_cons (pe_op op_mod (pv 2) pe_int) (pa_cons (pe_op op_xor (pe_ix ix_tup (pv 0) pe_int (fun _ _ => rfl)) (pe_ix ix_tup (pv 1) pe_int (fun _ _ => rfl))) (pa_cons (pe_op op_xor (pe_ix ix_tup (pv 0) pe_int (fun _ _ => rfl)) (pe_ix ix_tup (pv 1) pe_int (fun _ _ => rfl))) pa_nil))))))), ?_⟩
  try dsimp only [cxK]
  refine ⟨_, rfl, p, _, _, _, rfl, rfl, S1, rfl, _, rfl, p', _, _, _, rfl, rfl, S2, rfl, _, _, rfl, rfl, _, rfl, p, _, _, _, rfl, rfl, S1, rfl, _, rfl, p', _, _, _, rfl, rfl, S2, rfl, _, _, rfl, rfl, m.2.2 &&& m'.2.1, and_v _ _, _, _, rfl, rfl, .inl ⟨by decide, by decide⟩, _, _, rfl, rfl, ?_⟩
  refine ⟨_, rfl, _, _, rfl, rfl, four_pos, _, rfl, p, _, _, _, rfl, rfl, S1, rfl, _, rfl, p', _, _, _, rfl, rfl, S2, rfl, _, _, rfl, rfl, _, rfl, p, _, _, _, rfl, rfl, S1, rfl, _, rfl, p', _, _, _, rfl, rfl, S2, rfl, _, _, rfl, rfl, t3, fun r hr => ?_⟩
  refine kq r _ (same_new hr _) ?_
  rw [upd_same]
  show some (HO.tup [.int (((m.1 : Int) + m'.1 + 2 * ((pc (m.2.2 &&& m'.2.1) : Nat) : Int)) % 4), .int (Builtin.bitXor (m.2.1 : Int) m'.2.1), .int (Builtin.bitXor (m.2.2 : Int) m'.2.2)]) = _
  rw [xor_i, xor_i]
  rfl
theorem sc_commute : FnScope ["_law_one", "_law_other_here"] ["_law_one", "_law_other_here"] (defScope (top 38)) := ⟨rfl, rfl, rfl, by decide +kernel, rfl, by decide +kernel, by decide +kernel⟩
theorem ok_commute (F : FunAt K "_law_commute" (top 38) .none) (X : K.In h) (G : h.Ns mainGlobals mg) (c__law_ones : Cal P w K mg base k "_law_ones" ["_law_number"] spOnes) : Cal P w K mg base (k + 1) "_law_commute" ["_law_one", "_law_other_here"] (spCommute K) := by
  have nd := sc_commute.nd
  refine F.cal X G sc_commute (bnd2 fun _ _ _ _ _ _ _ _ => rfl) (fun vs H Q E h => ?_) (fun f cdv A outer s H vs Q E hr h => ?_)
  · obtain ⟨p, p', m, m', rfl, _⟩ := h; rfl
  obtain ⟨p, p', m, m', rfl, S1, S2, q⟩ := h
  refine ⟨_, (@pss_one _ _ _ (ps_ret (pe_cmpR op_eq (pe_op op_mod (pe_op op_add (pe_cal c__law_ones hr rfl (pa_cons (pe_op op_and (pe_ix ix_tup (pv 0) pe_int (fun _ _ => rfl)) (pe_ix ix_tup (pv 1) pe_int (fun _ _ => rfl))) pa_nil)) (pe_cal c__law_ones hr rfl (pa_cons (pe_op op_and (pe_ix ix_tup (pv 0) pe_int (fun _ _ => rfl)) (pe_ix ix_tup (pv 1) pe_int (fun _ _ => rfl))) pa_nil))) pe_int) pe_int (nomark _)))), ?_⟩
  try dsimp only [cxK]
  refine ⟨_, rfl, p, _, _, _, rfl, rfl, S1, rfl, _, rfl, p', _, _, _, rfl, rfl, S2, rfl, _, _, rfl, rfl, m.2.1 &&& m'.2.2, and_v _ _, _, rfl, p, _, _, _, rfl, rfl, S1, rfl, _, rfl, p', _, _, _, rfl, rfl, S2, rfl, _, _, rfl, rfl, m.2.2 &&& m'.2.1, and_v _ _, _, _, rfl, rfl, _, _, rfl, rfl, two_pos, rfl, ?_⟩
  have e : decide (V.int ((((pc (m.2.1 &&& m'.2.2) : Nat) : Int) + ((pc (m.2.2 &&& m'.2.1) : Nat) : Int)) % 2) = V.int 0) = decide (comm m m' = 0) := by
    rw [decide_eq_decide]
    unfold comm
    constructor
    · intro z
      have := V.int.inj z
      omega
    · intro z
      congr 1
      omega
  show Q (.bl (decide (V.int ((((pc (m.2.1 &&& m'.2.2) : Nat) : Int) + ((pc (m.2.2 &&& m'.2.1) : Nat) : Int)) % 2) = V.int 0))) H
  rw [e]
  exact q
theorem sc_evenmark : FnScope ["_law_cell", "_law_cells", "_law_mixed", "_law_f", "_law_s"] ["_law_cell", "_law_cells"] (defScope (top 39)) := ⟨rfl, rfl, rfl, by decide +kernel, rfl, by decide +kernel, by decide +kernel⟩
theorem ok_evenmark (F : FunAt K "_law_even_mark" (top 39) .none) (X : K.In h) (G : h.Ns mainGlobals mg) (c__law_ones : Cal P w K mg base k "_law_ones" ["_law_number"] spOnes) : Cal P w K mg base (k + 1) "_law_even_mark" ["_law_cell", "_law_cells"] spEvenMark := by
  have nd := sc_evenmark.nd
  refine F.cal X G sc_evenmark (bnd2 fun _ _ _ _ _ _ _ _ => rfl) (fun vs H Q E h => ?_) (fun f cdv A outer s H vs Q E hr h => ?_)
  · obtain ⟨c, N, rfl, _⟩ := h; rfl
  obtain ⟨c, N, rfl, hN, kq⟩ := h
  refine ⟨_, (@pss_cut _ _ _ _ _ (@ps_set _ _ 2 _ _ _ _ nd rfl (Or.inl rfl) (pe_op op_mod (pe_op op_mul (pv 0) pe_int) (pe_op op_pow pe_int pe_int)) rfl (.inl rfl))
    (@pss_cut _ _ _ _ _ (@ps_set _ _ 3 _ _ _ _ nd rfl (Or.inl rfl) (pe_op op_mod (pe_op op_fdiv (pv 2) pe_int) (pe_op op_shlS pe_int (pv 1))) rfl (.inl rfl))
    (@pss_cut _ _ _ _ _ (@ps_set _ _ 4 _ _ _ _ nd rfl (Or.inl rfl) (pe_op op_mod (pe_op op_fdiv (pv 2) pe_int) (pe_op op_shlS pe_int (pv 1))) rfl (.inl rfl))
    (@pss_one _ _ _ (ps_ret (@pe_tup _ _ _ _ _ (pa_cons (pe_op op_mod (pe_op op_add (pe_cal c__law_ones hr rfl (pa_cons (pe_op op_and (pv 3) (pv 4)) pa_nil)) (pe_op op_mul pe_int (pe_op op_mod (pv 2) pe_int))) pe_int) (pa_cons (pv 3) (pa_cons (pv 4) pa_nil))))))))), ?_⟩
  try dsimp only [cxK]
  refine ⟨fun σ H' => H' = H ∧ ∃ m : Nat, σ = [some (.int c), some (.int N), some (.int m), none, none], ?_, ?_⟩
  · refine ⟨_, rfl, _, _, rfl, rfl, .inr ⟨by decide, by decide⟩, _, _, rfl, rfl, cp15, _, _, rfl, rfl, p15, rfl, ?_⟩
    obtain ⟨m, hm⟩ := nat_of (Int.emod_nonneg (c * 381966011250107) (Int.ne_of_gt p15))
    refine ⟨m, ?_⟩
    rw [← hm]
    rfl
  rintro σ1 H1 ⟨rfl, m, rfl⟩
  have eN := ipow N
  have N0 : (0 : Int) < 1 * 2 ^ ((N : Int)).toNat := by rw [Int.one_mul]; exact Int.pow_pos (by decide)
  refine ⟨fun σ H' => H' = H1 ∧ ∃ ff : Nat, ff < 2 ^ N ∧ σ = [some (.int c), some (.int N), some (.int m), some (.int ff), none], ?_, ?_⟩
  · refine ⟨_, rfl, _, _, rfl, rfl, ⟨by decide, by decide⟩, _, rfl, _, _, rfl, rfl, ⟨1, sz1, by omega, by omega⟩, _, _, rfl, rfl, N0, rfl, m / 2 % 2 ^ N, Nat.mod_lt _ (Nat.two_pow_pos N), ?_⟩
    show [_, _, _, some (V.int ((m : Int) / 2 % (1 * 2 ^ ((N : Int)).toNat))), _] = _
    rw [eN]
    rfl
  rintro σ2 H2 ⟨rfl, ff, hff, rfl⟩
  refine ⟨fun σ H' => H' = H2 ∧ ∃ ss : Nat, ss < 2 ^ N ∧ σ = [some (.int c), some (.int N), some (.int m), some (.int ff), some (.int ss)], ?_, ?_⟩
  · refine ⟨_, rfl, _, _, rfl, rfl, ⟨by decide, by decide⟩, _, rfl, _, _, rfl, rfl, ⟨1, sz1, by omega, by omega⟩, _, _, rfl, rfl, N0, rfl, m / 128 % 2 ^ N, Nat.mod_lt _ (Nat.two_pow_pos N), ?_⟩
    show [_, _, _, _, some (V.int ((m : Int) / 128 % (1 * 2 ^ ((N : Int)).toNat)))] = _
    rw [eN]
    rfl
  rintro σ3 H3 ⟨rfl, ss, hss, rfl⟩
  refine ⟨_, rfl, _, rfl, _, _, rfl, rfl, ff &&& ss, and_v _ _, _, rfl, _, _, rfl, rfl, two_pos, _, _, rfl, rfl, .inl ⟨by decide, by decide⟩, _, _, rfl, rfl, _, _, rfl, rfl, four_pos, _, rfl, _, rfl, t3, fun r hr => ?_⟩
  refine kq r _ ((pc (ff &&& ss) + 2 * (m % 2)) % 4, ff, ss) (same_new hr _) ?_ ⟨Nat.mod_lt _ (by decide), hff, hss⟩ (by show ((pc (ff &&& ss) + 2 * (m % 2)) % 4 + pc (ff &&& ss)) % 2 = 0; omega)
  rw [upd_same]
  rfl
end
end K53

set_option maxHeartbeats 4000000
namespace M57
open Pc K51 M54
/-! rows that are independent, and what keeps them so -/
def xs (fs : List Nat) (c : Nat → Bool) : Nat → Nat
  | 0 => 0
  | m + 1 => if c m then xs fs c m ^^^ fs.getD m 0 else xs fs c m
theorem xs_X (fs : List Nat) (x : Nat) : ∀ m, Xm fs x m = xs fs (fun j => decide (bit x j = 1)) m
  | 0 => rfl
  | m + 1 => by
    unfold Xm xs
    rw [xs_X fs x m]
    by_cases h : bit x m = 1 <;> simp [h]
theorem xs_congr {fs gs : List Nat} {c d : Nat → Bool} : ∀ m, (∀ j, j < m → c j = d j ∧ fs.getD j 0 = gs.getD j 0) → xs fs c m = xs gs d m
  | 0, _ => rfl
  | m + 1, h => by
    unfold xs
    rw [xs_congr m fun j hj => h j (by omega), (h m (by omega)).1, (h m (by omega)).2]
def fOf (ms : List Mk) : List Nat := ms.map (·.2.1)
def sOf (ms : List Mk) : List Nat := ms.map (·.2.2)
def Indep (ms : List Mk) : Prop := ∀ c : Nat → Bool, xs (fOf ms) c ms.length = 0 → xs (sOf ms) c ms.length = 0 → ∀ j, j < ms.length → c j = false
theorem xs_flip {fs : List Nat} {c : Nat → Bool} {o : Nat} : ∀ m, xs fs (fun j => if j = o then !c j else c j) m = if o < m then xs fs c m ^^^ fs.getD o 0 else xs fs c m
  | 0 => by simp [xs]
  | m + 1 => by
    have ih := xs_flip (fs := fs) (c := c) (o := o) m
    unfold xs
    by_cases e : m = o
    · subst e
      rw [ih]
      cases c m <;> simp [Nat.xor_assoc]
    · rw [ih]
      simp only [e, if_false]
      by_cases lt : o < m
      · simp only [lt, if_true, show o < m + 1 by omega]
        cases c m
        · simp
        · simp only [if_true]
          rw [Nat.xor_assoc, Nat.xor_assoc, Nat.xor_comm (fs.getD o 0)]
      · simp only [lt, if_false, show ¬ o < m + 1 by omega]
theorem xs_set {fs gs : List Nat} {c : Nat → Bool} {t g : Nat} (ht : gs.getD t 0 = fs.getD t 0 ^^^ g) : ∀ m, (∀ j, j < m → j ≠ t → gs.getD j 0 = fs.getD j 0) → xs gs c m = if t < m ∧ c t = true then xs fs c m ^^^ g else xs fs c m
  | 0, _ => by simp [xs]
  | m + 1, h => by
    have ih := xs_set ht (c := c) m fun j hj => h j (by omega)
    unfold xs
    by_cases e : m = t
    · subst e
      rw [ih, ht]
      cases hc : c m <;> simp [Nat.xor_assoc]
    · rw [ih, h m (by omega) e]
      by_cases lt : t < m
      · cases hc : c m <;> cases hct : c t <;> simp [lt, show t < m + 1 by omega, Nat.xor_assoc, Nat.xor_comm]
      · simp [lt, show ¬ t < m + 1 by omega]
theorem indep_row {ms rs : List Mk} {t o : Nat} (hl : rs.length = ms.length) (hto : t ≠ o) (ht : t < ms.length) (ho : o < ms.length)
    (h1 : (fOf rs).getD t 0 = (fOf ms).getD t 0 ^^^ (fOf ms).getD o 0 ∧ (sOf rs).getD t 0 = (sOf ms).getD t 0 ^^^ (sOf ms).getD o 0)
    (h2 : ∀ j, j < ms.length → j ≠ t → (fOf rs).getD j 0 = (fOf ms).getD j 0 ∧ (sOf rs).getD j 0 = (sOf ms).getD j 0) (I : Indep ms) : Indep rs := by
  intro c hf hs j hj
  rw [hl] at hf hs hj
  rw [xs_set h1.1 ms.length fun j hj n => (h2 j hj n).1] at hf
  rw [xs_set h1.2 ms.length fun j hj n => (h2 j hj n).2] at hs
  cases hct : c t with
  | false =>
    simp only [hct, Bool.false_eq_true, and_false, if_false] at hf hs
    exact I c hf hs j hj
  | true =>
    simp only [hct, ht, and_self, if_true] at hf hs
    have e1 := xs_flip (fs := fOf ms) (c := c) (o := o) ms.length
    have e2 := xs_flip (fs := sOf ms) (c := c) (o := o) ms.length
    rw [if_pos ho] at e1 e2
    have := I (fun j => if j = o then !c j else c j) (e1.trans hf) (e2.trans hs) t ht
    simp [hto, hct] at this
theorem xs_cons (f : Nat) (fs : List Nat) (c : Nat → Bool) : ∀ m, xs (f :: fs) c (m + 1) = (if c 0 then f else 0) ^^^ xs fs (fun j => c (j + 1)) m
  | 0 => by unfold xs xs; cases c 0 <;> simp
  | m + 1 => by
    have ih := xs_cons f fs c m
    show (if c (m + 1) then xs (f :: fs) c (m + 1) ^^^ (f :: fs).getD (m + 1) 0 else xs (f :: fs) c (m + 1)) = _ ^^^ (if c (m + 1) then xs fs (fun j => c (j + 1)) m ^^^ fs.getD m 0 else xs fs (fun j => c (j + 1)) m)
    rw [ih]
    cases c (m + 1)
    · simp
    · simp only [if_true]
      rw [Nat.xor_assoc]
      rfl
theorem xs_rev : ∀ (fs : List Nat) (c : Nat → Bool), xs fs.reverse c fs.length = xs fs (fun j => c (fs.length - 1 - j)) fs.length
  | [], _ => rfl
  | f :: fs, c => by
    have ih := xs_rev fs c
    rw [List.length_cons, xs_cons]
    show (if c fs.length then xs (f :: fs).reverse c fs.length ^^^ (f :: fs).reverse.getD fs.length 0 else xs (f :: fs).reverse c fs.length) = _
    have e1 : xs (f :: fs).reverse c fs.length = xs fs.reverse c fs.length := xs_congr fs.length fun j hj => ⟨rfl, by
      rw [List.reverse_cons, List.getD_eq_getElem?_getD, List.getD_eq_getElem?_getD, List.getElem?_append_left (by rw [List.length_reverse]; exact hj)]⟩
    have e2 : (f :: fs).reverse.getD fs.length 0 = f := by
      rw [List.reverse_cons, List.getD_eq_getElem?_getD, List.getElem?_append_right (by rw [List.length_reverse]; exact Nat.le_refl _), List.length_reverse, Nat.sub_self]
      rfl
    have e3 : xs fs (fun j => c (fs.length + 1 - 1 - (j + 1))) fs.length = xs fs (fun j => c (fs.length - 1 - j)) fs.length := xs_congr fs.length fun j hj => ⟨by rw [show fs.length + 1 - 1 - (j + 1) = fs.length - 1 - j by omega], rfl⟩
    rw [e1, e2, ih, e3, show fs.length + 1 - 1 - 0 = fs.length by omega, Nat.xor_comm]
    cases c fs.length <;> simp
theorem indep_rev {ms : List Mk} (I : Indep ms) : Indep ms.reverse := by
  intro c hf hs j hj
  rw [List.length_reverse] at hf hs hj
  have lf : (fOf ms).length = ms.length := List.length_map _
  have ls : (sOf ms).length = ms.length := List.length_map _
  have ef : fOf ms.reverse = (fOf ms).reverse := List.map_reverse
  have es : sOf ms.reverse = (sOf ms).reverse := List.map_reverse
  have rf := xs_rev (fOf ms) c
  have rs := xs_rev (sOf ms) c
  rw [lf] at rf
  rw [ls] at rs
  rw [ef, rf] at hf
  rw [es, rs] at hs
  have := I _ hf hs (ms.length - 1 - j) (by omega)
  rw [show ms.length - 1 - (ms.length - 1 - j) = j by omega] at this
  exact this
theorem indep_inj {ms : List Mk} (I : Indep ms) {x y : Nat} (hx : x < 2 ^ ms.length) (hy : y < 2 ^ ms.length) (hf : Xm (fOf ms) x ms.length = Xm (fOf ms) y ms.length) (hs : Xm (sOf ms) x ms.length = Xm (sOf ms) y ms.length) : x = y := by
  have lin : ∀ (fs : List Nat) m, Xm fs (x ^^^ y) m = Xm fs x m ^^^ Xm fs y m := by
    intro fs m
    induction m with
    | zero => show 0 = 0 ^^^ 0; simp
    | succ m ih =>
      have b := M54.bit_xor m x y
      have bx := bit_lt x m
      have b2 := bit_lt y m
      unfold Xm
      rw [ih, b]
      rcases (by omega : bit x m = 0 ∨ bit x m = 1) with z | z <;> rcases (by omega : bit y m = 0 ∨ bit y m = 1) with u | u <;> rw [z, u]
      · simp
      · simp [Nat.xor_assoc]
      · simp only [show (1 + 0) % 2 = 1 from rfl, if_true, show ¬ (0 = 1) by decide, if_false]
        rw [Nat.xor_assoc, Nat.xor_assoc, Nat.xor_comm (Xm fs y m)]
      · simp only [show ¬ ((1 + 1) % 2 = 1) by decide, if_true, if_false]
        rw [Nat.xor_assoc, Nat.xor_comm (Xm fs y m) (fs.getD m 0), ← Nat.xor_assoc (fs.getD m 0), Nat.xor_self, Nat.zero_xor]
  have zf : Xm (fOf ms) (x ^^^ y) ms.length = 0 := by rw [lin, hf, Nat.xor_self]
  have zs : Xm (sOf ms) (x ^^^ y) ms.length = 0 := by rw [lin, hs, Nat.xor_self]
  rw [xs_X] at zf zs
  refine eq_of_bits ms.length x y hx hy fun n hn => ?_
  have h0 := of_decide_eq_false (I _ zf zs n hn)
  have b := M54.bit_xor n x y
  have b1 := bit_lt x n
  have b2 := bit_lt y n
  omega
end M57

set_option maxHeartbeats 4000000
namespace M57
open Pc K51 M54
theorem places_same {x y : Nat} (m : Nat) (h : ∀ n, n < m → bit x n = bit y n) : places x m = places y m := by
  unfold places
  refine List.filter_congr fun p hp => ?_
  have := h p (List.mem_range.mp hp)
  unfold bit at this
  simp only [this]
theorem chosen_same (ms : List Mk) {x y : Nat} (m : Nat) (h : ∀ n, n < m → bit x n = bit y n) : chosen ms x m = chosen ms y m := by
  unfold chosen
  rw [places_same m h]
theorem bit_mod (x m : Nat) {n : Nat} (h : n < m) : bit (x % 2 ^ m) n = bit x n := by
  have t := Nat.testBit_mod_two_pow x m n
  rw [Nat.testBit_eq_decide_div_mod_eq, Nat.testBit_eq_decide_div_mod_eq, decide_eq_true h, Bool.true_and, decide_eq_decide] at t
  have a := bit_lt (x % 2 ^ m) n
  have b := bit_lt x n
  unfold bit at *
  omega
theorem chosen_mod (ms : List Mk) (x m : Nat) : chosen ms (x % 2 ^ m) m = chosen ms x m := chosen_same ms m fun n hn => bit_mod x m hn
theorem chosen_low (ms : List Mk) {x i : Nat} (h : x < 2 ^ i) : ∀ d, chosen ms x (i + d) = chosen ms x i
  | 0 => rfl
  | d + 1 => by
    rw [← Nat.add_assoc, chosen_succ, if_neg (by rw [bit_low h (by omega)]; decide), List.append_nil]
    exact chosen_low ms h d
def E (ms : List Mk) (x : Nat) : Mk := prod (chosen ms x ms.length)
theorem E_mod (ms : List Mk) (x : Nat) : E ms (x % 2 ^ ms.length) = E ms x := by unfold E; rw [chosen_mod]
theorem E_zero (ms : List Mk) : E ms 0 = (0, 0, 0) := by
  unfold E
  have := chosen_low ms (x := 0) (i := 0) (by decide) ms.length
  rw [Nat.zero_add] at this
  rw [this]
  rfl
theorem E_step (ms : List Mk) {x i : Nat} (hx : x < 2 ^ i) (hi : i < ms.length) : E ms (x + 2 ^ i) = mul (E ms x) (ms.getD i (0, 0, 0)) := by
  obtain ⟨d, hd⟩ : ∃ d, ms.length = i + 1 + d := ⟨ms.length - (i + 1), by omega⟩
  have lt : x + 2 ^ i < 2 ^ (i + 1) := by rw [Nat.pow_succ]; omega
  have b1 : bit (x + 2 ^ i) i = 1 := by
    unfold bit
    rw [Nat.add_div_right _ (Nat.two_pow_pos i), Nat.div_eq_of_lt hx]
  have lo : chosen ms (x + 2 ^ i) i = chosen ms x i := by
    rw [← chosen_mod, Nat.add_mod_right, Nat.mod_eq_of_lt hx]
  have e1 : chosen ms (x + 2 ^ i) ms.length = chosen ms x i ++ [ms.getD i (0, 0, 0)] := by
    rw [hd, chosen_low ms lt d, chosen_succ, if_pos b1, lo]
  have e2 : chosen ms x ms.length = chosen ms x i := by
    rw [hd, Nat.add_assoc]
    exact chosen_low ms hx _
  unfold E
  rw [e1, e2]
  unfold prod
  rw [List.foldl_append]
  rfl
theorem E_one (ms : List Mk) {i : Nat} (hi : i < ms.length) (q : (ms.getD i (0, 0, 0)).1 < 4) : E ms (2 ^ i) = ms.getD i (0, 0, 0) := by
  have := E_step ms (x := 0) (Nat.two_pow_pos i) hi
  rw [Nat.zero_add, E_zero] at this
  rw [this]
  revert q
  generalize ms.getD i (0, 0, 0) = z
  obtain ⟨a, b, c⟩ := z
  intro q
  unfold mul
  simp [pc_zero, Nat.mod_eq_of_lt q]
theorem E_inj {ms : List Mk} (I : Indep ms) {x y : Nat} (hx : x < 2 ^ ms.length) (hy : y < 2 ^ ms.length) (h : (E ms x).2 = (E ms y).2) : x = y := by
  refine indep_inj I hx hy ?_ ?_
  · have := congrArg Prod.fst h
    unfold E at this
    rw [prod_f, prod_f] at this
    exact this
  · have := congrArg Prod.snd h
    unfold E at this
    rw [prod_s, prod_s] at this
    exact this
def In (ms : List Mk) (m : Mk) : Prop := ∃ x, x < 2 ^ ms.length ∧ E ms x = m
theorem in_of {ms : List Mk} {m : Mk} {x : Nat} (h : (chosen ms x ms.length).foldl mul (0, 0, 0) = m) : In ms m := ⟨x % 2 ^ ms.length, Nat.mod_lt _ (Nat.two_pow_pos _), by rw [E_mod]; exact h⟩
theorem fget (ms : List Mk) (j : Nat) : (fOf ms).getD j 0 = (ms.getD j (0, 0, 0)).2.1 := by
  unfold fOf
  rw [List.getD_eq_getElem?_getD, List.getD_eq_getElem?_getD, List.getElem?_map]
  cases ms[j]? <;> rfl
theorem sget (ms : List Mk) (j : Nat) : (sOf ms).getD j 0 = (ms.getD j (0, 0, 0)).2.2 := by
  unfold sOf
  rw [List.getD_eq_getElem?_getD, List.getD_eq_getElem?_getD, List.getElem?_map]
  cases ms[j]? <;> rfl
theorem set_getD (ms : List Mk) {i : Nat} (m : Mk) (j : Nat) (h : i < ms.length) : (ms.set i m).getD j (0, 0, 0) = if j = i then m else ms.getD j (0, 0, 0) := by
  rw [List.getD_eq_getElem?_getD, List.getD_eq_getElem?_getD, List.getElem?_set]
  by_cases e : i = j
  · subst e; simp [h]
  · rw [if_neg e, if_neg (Ne.symm e)]
end M57

set_option maxHeartbeats 4000000
namespace M53
open Pc K51 M54 M57
/-! a reduced table is told by what it spans -/
structure IsLd (v n : Nat) : Prop where
  one : bit v n = 1
  low : ∀ m, m < n → bit v m = 0
theorem IsLd.uniq {v n n' : Nat} (h : IsLd v n) (h' : IsLd v n') : n = n' := by
  rcases Nat.lt_trichotomy n n' with lt | e | lt
  · have := h'.low n lt
    rw [h.one] at this
    cases this
  · exact e
  · have := h.low n' lt
    rw [h'.one] at this
    cases this
structure Red (vs ls : List Nat) : Prop where
  len : ls.length = vs.length
  ld : ∀ i, i < vs.length → IsLd (vs.getD i 0) (ls.getD i 0)
  off : ∀ i j, i < vs.length → j < vs.length → i ≠ j → bit (vs.getD i 0) (ls.getD j 0) = 0
  rise : ls.Pairwise (· < ·)
theorem red_bit {vs ls : List Nat} (R : Red vs ls) (c : Nat → Bool) {j : Nat} (hj : j < vs.length) : ∀ m, m ≤ vs.length → bit (xs vs c m) (ls.getD j 0) = if j < m ∧ c j = true then 1 else 0
  | 0, _ => by unfold xs; rw [bit_zero]; simp
  | m + 1, hm => by
    have ih := red_bit R c hj m (by omega)
    unfold xs
    by_cases e : j = m
    · subst e
      rw [if_neg (by omega)] at ih
      cases hc : c j
      · simp only [Bool.false_eq_true, if_false, and_false]
        exact ih
      · simp only [if_true, and_true]
        rw [M54.bit_xor, ih, (R.ld j hj).one, if_pos (by omega)]
    · have off := R.off m j (by omega) hj (Ne.symm e)
      have lt : (j < m + 1 ∧ c j = true) ↔ (j < m ∧ c j = true) := by constructor <;> rintro ⟨a, b⟩ <;> exact ⟨by omega, b⟩
      simp only [lt]
      split
      · rw [M54.bit_xor, ih, off]
        split <;> rfl
      · exact ih
theorem xs_some {vs : List Nat} {c : Nat → Bool} {n : Nat} : ∀ m, bit (xs vs c m) n = 1 → ∃ i, i < m ∧ c i = true ∧ bit (vs.getD i 0) n = 1
  | 0, h => by unfold xs at h; rw [bit_zero] at h; cases h
  | m + 1, h => by
    unfold xs at h
    by_cases hc : c m = true
    · rw [if_pos hc, M54.bit_xor] at h
      have b := bit_lt (vs.getD m 0) n
      by_cases e : bit (vs.getD m 0) n = 1
      · exact ⟨m, by omega, hc, e⟩
      · have a := bit_lt (xs vs c m) n
        have a1 : bit (xs vs c m) n = 1 := by omega
        obtain ⟨i, hi, x, y⟩ := xs_some m a1
        exact ⟨i, by omega, x, y⟩
    · rw [if_neg hc] at h
      obtain ⟨i, hi, x, y⟩ := xs_some m h
      exact ⟨i, by omega, x, y⟩
theorem red_lead {vs ls : List Nat} (R : Red vs ls) {c : Nat → Bool} {n : Nat} (h : IsLd (xs vs c vs.length) n) : ∃ i, i < vs.length ∧ ls.getD i 0 = n := by
  obtain ⟨i, hi, hc, hb⟩ := xs_some _ h.one
  refine ⟨i, hi, ?_⟩
  have b := red_bit R c hi vs.length (Nat.le_refl _)
  rw [if_pos ⟨hi, hc⟩] at b
  rcases Nat.lt_trichotomy (ls.getD i 0) n with lt | e | lt
  · rw [h.low _ lt] at b; cases b
  · exact e
  · have := (R.ld i hi).low n lt
    rw [hb] at this
    cases this
theorem rise_eq : ∀ {l r : List Nat}, l.Pairwise (· < ·) → r.Pairwise (· < ·) → (∀ x, x ∈ l ↔ x ∈ r) → l = r
  | [], [], _, _, _ => rfl
  | [], y :: r, _, _, h => by have := (h y).mpr List.mem_cons_self; cases this
  | x :: l, [], _, _, h => by have := (h x).mp List.mem_cons_self; cases this
  | x :: l, y :: r, hl, hr, h => by
    have hl' := List.pairwise_cons.mp hl
    have hr' := List.pairwise_cons.mp hr
    have exy : x = y := by
      rcases List.mem_cons.mp ((h x).mp List.mem_cons_self) with e | m
      · exact e
      · rcases List.mem_cons.mp ((h y).mpr List.mem_cons_self) with e | m'
        · exact e.symm
        · have a := hr'.1 x m
          have b := hl'.1 y m'
          omega
    subst exy
    rw [rise_eq hl'.2 hr'.2 fun z => ⟨fun m => ?_, fun m => ?_⟩]
    · rcases List.mem_cons.mp ((h z).mp (List.mem_cons_of_mem _ m)) with e | q
      · have := hl'.1 z m; omega
      · exact q
    · rcases List.mem_cons.mp ((h z).mpr (List.mem_cons_of_mem _ m)) with e | q
      · have := hr'.1 z m; omega
      · exact q
theorem getD_mem' {l : List Nat} {i : Nat} (h : i < l.length) : l.getD i 0 ∈ l := by rw [List.getD_eq_getElem?_getD, List.getElem?_eq_getElem h]; exact List.getElem_mem h
theorem mem_getD {l : List Nat} {x : Nat} (h : x ∈ l) : ∃ i, i < l.length ∧ l.getD i 0 = x := by
  obtain ⟨i, hi, e⟩ := List.mem_iff_getElem.mp h
  exact ⟨i, hi, by rw [List.getD_eq_getElem?_getD, List.getElem?_eq_getElem hi]; exact e⟩
def Spans (vs ws : List Nat) : Prop := ∀ i, i < ws.length → ∃ c, ws.getD i 0 = xs vs c vs.length
theorem leads_sub {vs ws ls ks : List Nat} (R : Red vs ls) (S : Red ws ks) (h : Spans vs ws) : ∀ x, x ∈ ks → x ∈ ls := by
  intro x hx
  obtain ⟨i, hi, e⟩ := mem_getD hx
  rw [S.len] at hi
  obtain ⟨c, hc⟩ := h i hi
  have ld := S.ld i hi
  rw [hc, e] at ld
  obtain ⟨j, hj, ej⟩ := red_lead R ld
  rw [← ej]
  exact getD_mem' (by rw [R.len]; exact hj)
theorem red_uniq {vs ws ls ks : List Nat} (R : Red vs ls) (S : Red ws ks) (h : Spans vs ws) (h' : Spans ws vs) : vs = ws := by
  have el : ls = ks := rise_eq R.rise S.rise fun x => ⟨leads_sub S R h' x, leads_sub R S h x⟩
  subst el
  have len : vs.length = ws.length := by rw [← R.len, S.len]
  have pt : ∀ i, i < ws.length → ws.getD i 0 = vs.getD i 0 := fun i hi => by
    obtain ⟨c, hc⟩ := h i hi
    have hi' : i < vs.length := by omega
    have only : ∀ j, j < vs.length → c j = decide (j = i) := fun j hj => by
      have b := red_bit R c hj vs.length (Nat.le_refl _)
      rw [← hc] at b
      by_cases e : j = i
      · subst e
        rw [(S.ld j hi).one] at b
        split at b
        · rename_i z; rw [z.2, decide_eq_true rfl]
        · cases b
      · rw [S.off i j hi (by omega) (Ne.symm e)] at b
        split at b
        · cases b
        · rename_i z
          rw [decide_eq_false e]
          cases hcj : c j
          · rfl
          · exact absurd ⟨hj, hcj⟩ z
    have one : ∀ m, m ≤ vs.length → xs vs c m = if i < m then vs.getD i 0 else 0 := by
      intro m
      induction m with
      | zero => intro _; rfl
      | succ m ih =>
        intro hm
        unfold xs
        rw [ih (by omega), only m (by omega)]
        by_cases e : m = i
        · subst e; simp
        · by_cases lt : i < m
          · simp [e, lt, show i < m + 1 by omega]
          · simp [e, lt, show ¬ i < m + 1 by omega]
    rw [hc, one _ (Nat.le_refl _), if_pos hi']
  refine List.ext_getElem len fun i h1 h2 => ?_
  have := pt i h2
  rw [List.getD_eq_getElem?_getD, List.getD_eq_getElem?_getD, List.getElem?_eq_getElem h1, List.getElem?_eq_getElem h2] at this
  exact this.symm
end M53

set_option maxHeartbeats 4000000
namespace M53
open Pc K51 M54 M57
/-! marks that commute: what they make is closed -/
def cm (a b : Mk) : Nat := (pc (a.2.1 &&& b.2.2) + pc (a.2.2 &&& b.2.1)) % 2
def ev (a : Mk) : Prop := (a.1 + pc (a.2.1 &&& a.2.2)) % 2 = 0
theorem mul_assoc (a b c : Mk) : mul (mul a b) c = mul a (mul b c) := by
  have h1 := pcx (a.2.2 &&& c.2.1) (b.2.2 &&& c.2.1)
  have h2 := pcx (a.2.2 &&& b.2.1) (a.2.2 &&& c.2.1)
  rw [← Nat.and_xor_distrib_right] at h1
  rw [← Nat.and_xor_distrib_left] at h2
  unfold mul
  refine Prod.ext ?_ (Prod.ext (Nat.xor_assoc _ _ _) (Nat.xor_assoc _ _ _))
  show ((a.1 + b.1 + 2 * pc (a.2.2 &&& b.2.1)) % 4 + c.1 + 2 * pc ((a.2.2 ^^^ b.2.2) &&& c.2.1)) % 4 = (a.1 + (b.1 + c.1 + 2 * pc (b.2.2 &&& c.2.1)) % 4 + 2 * pc (a.2.2 &&& (b.2.1 ^^^ c.2.1))) % 4
  omega
theorem mul_comm {a b : Mk} (h : cm a b = 0) : mul a b = mul b a := by
  unfold cm at h
  unfold mul
  refine Prod.ext ?_ (Prod.ext (Nat.xor_comm _ _) (Nat.xor_comm _ _))
  show (a.1 + b.1 + 2 * pc (a.2.2 &&& b.2.1)) % 4 = (b.1 + a.1 + 2 * pc (b.2.2 &&& a.2.1)) % 4
  rw [Nat.and_comm b.2.2 a.2.1]
  omega
theorem mul_one {a : Mk} (h : a.1 < 4) : mul a (0, 0, 0) = a := by
  obtain ⟨q, f, s⟩ := a
  unfold mul
  simp [pc_zero, Nat.mod_eq_of_lt h]
theorem one_mul {a : Mk} (h : a.1 < 4) : mul (0, 0, 0) a = a := by
  obtain ⟨q, f, s⟩ := a
  unfold mul
  simp [pc_zero, Nat.mod_eq_of_lt h]
theorem mul_self {a : Mk} (h : ev a) : mul a a = (0, 0, 0) := by
  unfold ev at h
  unfold mul
  rw [Nat.xor_self, Nat.xor_self, Nat.and_comm]
  refine Prod.ext ?_ rfl
  show (a.1 + a.1 + 2 * pc (a.2.1 &&& a.2.2)) % 4 = 0
  omega
theorem cm_mul (o a b : Mk) : cm o (mul a b) = (cm o a + cm o b) % 2 := by
  unfold cm mul
  show (pc (o.2.1 &&& (a.2.2 ^^^ b.2.2)) + pc (o.2.2 &&& (a.2.1 ^^^ b.2.1))) % 2 = _
  rw [Nat.and_xor_distrib_left, Nat.and_xor_distrib_left]
  have h1 := pcx (o.2.1 &&& a.2.2) (o.2.1 &&& b.2.2)
  have h2 := pcx (o.2.2 &&& a.2.1) (o.2.2 &&& b.2.1)
  omega
theorem cm_comm (a b : Mk) : cm a b = cm b a := by
  unfold cm
  rw [Nat.and_comm a.2.1, Nat.and_comm a.2.2, Nat.add_comm]
structure Nice (ms : List Mk) : Prop where
  q : ∀ m ∈ ms, m.1 < 4
  even : ∀ m ∈ ms, ev m
  com : ∀ m ∈ ms, ∀ r ∈ ms, cm m r = 0
def G (ms : List Mk) (m : Nat) (g : Mk) : Prop := ∃ x, g = prod (chosen ms x m)
theorem G_lt {ms : List Mk} {m : Nat} {g : Mk} (h : G ms m g) : g.1 < 4 := by
  obtain ⟨x, rfl⟩ := h
  exact prod_lt _ _ (by decide)
theorem G_up {ms : List Mk} {m : Nat} {g : Mk} (h : G ms m g) : G ms (m + 1) g := by
  obtain ⟨x, rfl⟩ := h
  refine ⟨x % 2 ^ m, ?_⟩
  rw [chosen_low ms (Nat.mod_lt _ (Nat.two_pow_pos m)) 1, chosen_mod]
theorem G_row {ms : List Mk} {m : Nat} {g : Mk} (h : G ms m g) : G ms (m + 1) (mul g (ms.getD m (0, 0, 0))) := by
  obtain ⟨x, rfl⟩ := h
  have hx := Nat.mod_lt x (Nat.two_pow_pos m)
  refine ⟨x % 2 ^ m + 2 ^ m, ?_⟩
  have b1 : bit (x % 2 ^ m + 2 ^ m) m = 1 := by
    unfold bit
    rw [Nat.add_div_right _ (Nat.two_pow_pos m), Nat.div_eq_of_lt hx]
  rw [chosen_succ, if_pos b1, ← chosen_mod ms (x % 2 ^ m + 2 ^ m), Nat.add_mod_right, Nat.mod_mod, chosen_mod]
  unfold prod
  rw [List.foldl_append]
  rfl
theorem G_cases {ms : List Mk} {m : Nat} {g : Mk} (h : G ms (m + 1) g) : G ms m g ∨ ∃ g', G ms m g' ∧ g = mul g' (ms.getD m (0, 0, 0)) := by
  obtain ⟨x, rfl⟩ := h
  rw [chosen_succ]
  split
  · refine .inr ⟨_, ⟨x, rfl⟩, ?_⟩
    unfold prod
    rw [List.foldl_append]
    rfl
  · rw [List.append_nil]
    exact .inl ⟨x, rfl⟩
theorem gmem {ms : List Mk} {i : Nat} (h : i < ms.length) : ms.getD i (0, 0, 0) ∈ ms := by rw [List.getD_eq_getElem?_getD, List.getElem?_eq_getElem h]; exact List.getElem_mem h
theorem cm_one (o : Mk) : cm o (0, 0, 0) = 0 := by unfold cm; simp [pc_zero]
theorem G_com {ms : List Mk} {o : Mk} (ho : ∀ r ∈ ms, cm o r = 0) : ∀ {m : Nat} {g : Mk}, m ≤ ms.length → G ms m g → cm o g = 0
  | 0, g, _, ⟨x, e⟩ => by rw [e]; exact cm_one o
  | m + 1, g, hm, h => by
    rcases G_cases h with q | ⟨g', q, rfl⟩
    · exact G_com ho (by omega) q
    · rw [cm_mul, G_com ho (by omega) q, ho _ (gmem (by omega))]
theorem G_mul {ms : List Mk} (N : Nice ms) : ∀ {m : Nat} {g h : Mk}, m ≤ ms.length → G ms m g → G ms m h → G ms m (mul g h)
  | 0, g, h, _, ⟨x, e⟩, ⟨y, e'⟩ => by
    have eg : g = (0, 0, 0) := e
    have eh : h = (0, 0, 0) := e'
    subst eg eh
    exact ⟨0, one_mul (by decide)⟩
  | m + 1, g, h, hm, hg, hh => by
    have rm := gmem (ms := ms) (i := m) (by omega)
    generalize er : ms.getD m (0, 0, 0) = r at *
    have up : ∀ {z}, G ms m z → G ms (m + 1) (mul z r) := fun q => by rw [← er]; exact G_row q
    rcases G_cases hg with qg | ⟨g', qg, eg⟩ <;> rcases G_cases hh with qh | ⟨h', qh, eh⟩
    · exact G_up (G_mul N (by omega) qg qh)
    · rw [er] at eh
      subst eh
      rw [← mul_assoc]
      exact up (G_mul N (by omega) qg qh)
    · rw [er] at eg
      subst eg
      have c : cm r h = 0 := G_com (N.com r rm) (by omega) qh
      rw [mul_assoc, mul_comm c, ← mul_assoc]
      exact up (G_mul N (by omega) qg qh)
    · rw [er] at eg eh
      subst eg eh
      have c : cm r h' = 0 := G_com (N.com r rm) (by omega) qh
      have e : mul (mul g' r) (mul h' r) = mul g' h' := by
        rw [mul_assoc, ← mul_assoc r h' r, mul_comm c, mul_assoc h' r r, mul_self (N.even r rm), mul_one (G_lt qh)]
      rw [e]
      exact G_up (G_mul N (by omega) qg qh)
theorem in_G {ms : List Mk} {g : Mk} : In ms g ↔ G ms ms.length g := by
  constructor
  · rintro ⟨x, _, e⟩
    exact ⟨x, e.symm⟩
  · rintro ⟨x, e⟩
    exact in_of e.symm
theorem in_mul {ms : List Mk} (N : Nice ms) {g h : Mk} (hg : In ms g) (hh : In ms h) : In ms (mul g h) := in_G.mpr (G_mul N (Nat.le_refl _) (in_G.mp hg) (in_G.mp hh))
theorem in_one (ms : List Mk) : In ms (0, 0, 0) := ⟨0, Nat.two_pow_pos _, E_zero ms⟩
theorem in_row {ms : List Mk} {i : Nat} (hi : i < ms.length) (q : (ms.getD i (0, 0, 0)).1 < 4) : In ms (ms.getD i (0, 0, 0)) := ⟨2 ^ i, Nat.pow_lt_pow_right (by decide) hi, E_one ms hi q⟩
theorem in_fold {ms : List Mk} (N : Nice ms) : ∀ {rs : List Mk} {g : Mk}, (∀ r ∈ rs, In ms r) → In ms g → In ms (rs.foldl mul g)
  | [], _, _, h => h
  | r :: rs, g, hr, h => in_fold (rs := rs) N (fun z hz => hr z (List.mem_cons_of_mem _ hz)) (in_mul N h (hr r List.mem_cons_self))
theorem chosen_mem {ms : List Mk} {x : Nat} {m : Mk} (h : m ∈ chosen ms x ms.length) : m ∈ ms := by
  obtain ⟨p, hp, rfl⟩ := List.mem_map.mp h
  exact gmem (places_lt hp)
theorem in_trans {ms rs : List Mk} (N : Nice ms) (h : ∀ r ∈ rs, In ms r) {g : Mk} (hg : In rs g) : In ms g := by
  obtain ⟨x, _, rfl⟩ := hg
  exact in_fold N (fun r hr => h r (chosen_mem hr)) (in_one ms)
theorem in_uniq {ms : List Mk} (I : Indep ms) {g h : Mk} (hg : In ms g) (hh : In ms h) (e : g.2 = h.2) : g = h := by
  obtain ⟨x, hx, rfl⟩ := hg
  obtain ⟨y, hy, rfl⟩ := hh
  rw [E_inj I hx hy e]
end M53

set_option maxHeartbeats 4000000
namespace M53
open Pc K51 M54 M57
/-! how a table is reduced -/
abbrev z0 : Mk := (0, 0, 0)
def vec (m : Mk) : Nat := m.2.1 + 64 * m.2.2
structure V6 (m : Mk) : Prop where
  f : m.2.1 < 2 ^ 6
  s : m.2.2 < 2 ^ 6
theorem V6.mul {a b : Mk} (ha : V6 a) (hb : V6 b) : V6 (mul a b) := ⟨Nat.xor_lt_two_pow ha.f hb.f, Nat.xor_lt_two_pow ha.s hb.s⟩
theorem vec_bit {f s : Nat} (h : f < 2 ^ 6) (n : Nat) : bit (f + 64 * s) n = if n < 6 then bit f n else bit s (n - 6) := by
  have h' : f < 64 := h
  by_cases c : n < 6
  · rw [if_pos c]
    unfold bit
    have : n = 0 ∨ n = 1 ∨ n = 2 ∨ n = 3 ∨ n = 4 ∨ n = 5 := by omega
    rcases this with rfl | rfl | rfl | rfl | rfl | rfl <;> simp only [Nat.reducePow] <;> omega
  · rw [if_neg c]
    obtain ⟨k, rfl⟩ : ∃ k, n = 6 + k := ⟨n - 6, by omega⟩
    unfold bit
    rw [Nat.pow_add, ← Nat.div_div_eq_div_mul, show (f + 64 * s) / 2 ^ 6 = s by rw [show (2 : Nat) ^ 6 = 64 from rfl]; omega, show 6 + k - 6 = k by omega]
theorem vec_mul {a b : Mk} (ha : V6 a) (hb : V6 b) (n : Nat) : bit (vec (mul a b)) n = (bit (vec a) n + bit (vec b) n) % 2 := by
  unfold vec
  rw [vec_bit (ha.mul hb).f, vec_bit ha.f, vec_bit hb.f]
  unfold mul
  split
  · exact M54.bit_xor _ _ _
  · exact M54.bit_xor _ _ _
theorem lead_of (v : Nat) : ∀ N, (∃ n, n < N ∧ IsLd v n) ∨ ∀ n, n < N → bit v n = 0
  | 0 => .inr fun n h => absurd h (Nat.not_lt_zero _)
  | N + 1 => by
    rcases lead_of v N with ⟨n, hn, l⟩ | h
    · exact .inl ⟨n, by omega, l⟩
    · have b := bit_lt v N
      by_cases e : bit v N = 1
      · exact .inl ⟨N, by omega, e, h⟩
      · refine .inr fun n hn => ?_
        by_cases en : n = N
        · subst en; omega
        · exact h n (by omega)
theorem has_lead {m : Mk} (h : V6 m) (nz : m.2 ≠ (0, 0)) : ∃ n, n < 12 ∧ IsLd (vec m) n := by
  rcases lead_of (vec m) 12 with q | q
  · exact q
  · exfalso
    refine nz (Prod.ext ?_ ?_)
    · refine eq_of_bits 6 _ _ h.f (by decide) fun n hn => ?_
      have := q n (by omega)
      unfold vec at this
      rw [vec_bit h.f, if_pos hn] at this
      rw [this, bit_zero]
    · refine eq_of_bits 6 _ _ h.s (by decide) fun n hn => ?_
      have := q (n + 6) (by omega)
      unfold vec at this
      rw [vec_bit h.f, if_neg (by omega), Nat.add_sub_cancel] at this
      rw [this, bit_zero]
def wl (m r : Mk) (n : Nat) : Mk := if bit (vec m) n = 1 then mul m r else m
theorem ev_mul {a b : Mk} (ha : ev a) (hb : ev b) (c : cm a b = 0) : ev (mul a b) := by
  unfold ev at *
  unfold cm at c
  unfold mul
  show ((a.1 + b.1 + 2 * pc (a.2.2 &&& b.2.1)) % 4 + pc ((a.2.1 ^^^ b.2.1) &&& (a.2.2 ^^^ b.2.2))) % 2 = 0
  have h1 := pcx (a.2.1 &&& (a.2.2 ^^^ b.2.2)) (b.2.1 &&& (a.2.2 ^^^ b.2.2))
  rw [← Nat.and_xor_distrib_right] at h1
  have h2 := pcx (a.2.1 &&& a.2.2) (a.2.1 &&& b.2.2)
  rw [← Nat.and_xor_distrib_left] at h2
  have h3 := pcx (b.2.1 &&& a.2.2) (b.2.1 &&& b.2.2)
  rw [← Nat.and_xor_distrib_left] at h3
  rw [Nat.and_comm a.2.2 b.2.1] at c
  omega
structure Tb (ms : List Mk) : Prop where
  nice : Nice ms
  v6 : ∀ m ∈ ms, V6 m
  ind : Indep ms
theorem G_ev {ms : List Mk} (T : Tb ms) : ∀ {m : Nat} {g : Mk}, m ≤ ms.length → G ms m g → ev g ∧ V6 g
  | 0, g, _, ⟨x, e⟩ => by
    have : g = (0, 0, 0) := e
    subst this
    exact ⟨by unfold ev; simp [pc_zero], by decide, by decide⟩
  | m + 1, g, hm, h => by
    rcases G_cases h with q | ⟨g', q, rfl⟩
    · exact G_ev T (by omega) q
    · have rm := gmem (ms := ms) (i := m) (by omega)
      have ih := G_ev T (by omega : m ≤ ms.length) q
      refine ⟨ev_mul ih.1 (T.nice.even _ rm) ?_, ih.2.mul (T.v6 _ rm)⟩
      rw [cm_comm]
      exact G_com (T.nice.com _ rm) (by omega) q
theorem G_cm {ms : List Mk} (T : Tb ms) {m n : Nat} {g h : Mk} (hm : m ≤ ms.length) (hn : n ≤ ms.length) (hg : G ms m g) (hh : G ms n h) : cm g h = 0 := by
  refine G_com (fun r hr => ?_) hn hh
  rw [cm_comm]
  exact G_com (fun r' hr' => T.nice.com r hr r' hr') hm hg
theorem mul_back {a r : Mk} (ha : a.1 < 4) (hr : ev r) : mul (mul a r) r = a := by rw [mul_assoc, mul_self hr, mul_one ha]
structure Dn (ms : List Mk) (i : Nat) (D : List Mk) (ls : List Nat) : Prop where
  len : D.length = i
  ll : ls.length = i
  g : ∀ d ∈ D, G ms i d
  ld : ∀ j, j < i → IsLd (vec (D.getD j z0)) (ls.getD j 0)
  off : ∀ j k, j < i → k < i → j ≠ k → bit (vec (D.getD j z0)) (ls.getD k 0) = 0
  back : ∀ j, j < i → In D (ms.getD j z0)
theorem Dn.start (ms : List Mk) : Dn ms 0 [] [] := ⟨rfl, rfl, fun d h => (nomatch h), fun j h => absurd h (Nat.not_lt_zero _), fun j k h => absurd h (Nat.not_lt_zero _), fun j h => absurd h (Nat.not_lt_zero _)⟩
def fr (D : List Mk) (ls : List Nat) (row : Mk) : Nat → Mk
  | 0 => row
  | t + 1 => wl (fr D ls row t) (D.getD t z0) (ls.getD t 0)
theorem G_nice {ms : List Mk} (T : Tb ms) {n : Nat} (hn : n ≤ ms.length) {D : List Mk} (h : ∀ d ∈ D, G ms n d) : Nice D :=
  ⟨fun d hd => G_lt (h d hd), fun d hd => (G_ev T hn (h d hd)).1, fun d hd e he => G_cm T hn hn (h d hd) (h e he)⟩
theorem mem_in {D : List Mk} (N : Nice D) {d : Mk} (h : d ∈ D) : In D d := by
  obtain ⟨i, hi, e⟩ := List.mem_iff_getElem.mp h
  have eg : D.getD i (0, 0, 0) = d := by rw [List.getD_eq_getElem?_getD, List.getElem?_eq_getElem hi]; exact e
  have := in_row (ms := D) hi (by rw [eg]; exact N.q d h)
  rw [eg] at this
  exact this
structure Fr (ms : List Mk) (i : Nat) (D : List Mk) (ls : List Nat) (f : Mk) (t : Nat) : Prop where
  g : ∃ g, G ms i g ∧ f = mul g (ms.getD i z0)
  off : ∀ k, k < t → bit (vec f) (ls.getD k 0) = 0
  back : In (D ++ [f]) (ms.getD i z0)
theorem Fr.G {ms : List Mk} {i : Nat} {D : List Mk} {ls : List Nat} {f : Mk} {t : Nat} (F : Fr ms i D ls f t) : G ms (i + 1) f := by
  obtain ⟨g, hg, rfl⟩ := F.g
  exact G_row hg
theorem fr_ok {ms : List Mk} (T : Tb ms) {i : Nat} {D : List Mk} {ls : List Nat} (hi : i < ms.length) (Q : Dn ms i D ls) : ∀ t, t ≤ i → Fr ms i D ls (fr D ls (ms.getD i z0) t) t
  | 0, _ => by
    have rm := gmem (ms := ms) hi
    have g0 : G ms i z0 := ⟨0, by
      have := chosen_low ms (x := 0) (i := 0) (by decide) i
      rw [Nat.zero_add] at this
      rw [this]; rfl⟩
    have hr : G ms (i + 1) (ms.getD i z0) := by
      have := G_row g0
      rw [one_mul (T.nice.q _ rm)] at this
      exact this
    refine ⟨⟨z0, g0, (one_mul (T.nice.q _ rm)).symm⟩, fun k h => absurd h (Nat.not_lt_zero _), ?_⟩
    refine mem_in (G_nice T (n := i + 1) (by omega) fun d hd => ?_) (List.mem_append_right _ (List.mem_singleton.mpr rfl))
    rcases List.mem_append.mp hd with q | q
    · exact G_up (Q.g d q)
    · rw [List.mem_singleton.mp q]; exact hr
  | t + 1, ht => by
    have ih := fr_ok T hi Q t (by omega)
    have rm := gmem (ms := ms) hi
    have dm : D.getD t z0 ∈ D := gmem (by rw [Q.len]; omega)
    have dg := Q.g _ dm
    have de := G_ev T (by omega) dg
    show Fr ms i D ls (wl (fr D ls (ms.getD i z0) t) (D.getD t z0) (ls.getD t 0)) (t + 1)
    have fG := ih.G
    have fe := G_ev T (by omega) fG
    generalize fr D ls (ms.getD i z0) t = f at *
    have bt := (Q.ld t (by omega)).one
    have offd : ∀ k, k < t → bit (vec (D.getD t z0)) (ls.getD k 0) = 0 := fun k hk => Q.off t k (by omega) (by omega) (by omega)
    generalize D.getD t z0 = d at *
    unfold wl
    by_cases c : bit (vec f) (ls.getD t 0) = 1
    · rw [if_pos c]
      refine ⟨?_, fun k hk => ?_, ?_⟩
      · obtain ⟨g, hg, rfl⟩ := ih.g
        refine ⟨mul g d, G_mul T.nice (by omega) hg dg, ?_⟩
        have cd : cm (ms.getD i z0) d = 0 := G_com (T.nice.com _ rm) (by omega) dg
        rw [mul_assoc, mul_comm cd, ← mul_assoc]
      · rw [vec_mul fe.2 de.2]
        by_cases e : k = t
        · subst e
          rw [c, bt]
        · rw [ih.off k (by omega), offd k (by omega)]
      · have N : Nice (D ++ [mul f d]) := G_nice T (n := i + 1) (by omega) fun x hx => by
          rcases List.mem_append.mp hx with q | q
          · exact G_up (Q.g x q)
          · rw [List.mem_singleton.mp q]
            exact G_mul T.nice (by omega) fG (G_up dg)
        refine in_trans N (fun x hx => ?_) ih.back
        rcases List.mem_append.mp hx with q | q
        · exact mem_in N (List.mem_append_left _ q)
        · rw [List.mem_singleton.mp q]
          have := in_mul N (mem_in N (List.mem_append_right _ (List.mem_singleton.mpr rfl))) (mem_in N (List.mem_append_left _ dm))
          rw [mul_back (G_lt fG) de.1] at this
          exact this
    · rw [if_neg c]
      refine ⟨ih.g, fun k hk => ?_, ih.back⟩
      by_cases e : k = t
      · subst e
        have := bit_lt (vec f) (ls.getD k 0)
        omega
      · exact ih.off k (by omega)
theorem Fr.nz {ms : List Mk} (T : Tb ms) {i : Nat} {D : List Mk} {ls : List Nat} {f : Mk} {t : Nat} (hi : i < ms.length) (F : Fr ms i D ls f t) : f.2 ≠ (0, 0) := by
  obtain ⟨g, ⟨x, rfl⟩, rfl⟩ := F.g
  intro e
  have hx := Nat.mod_lt x (Nat.two_pow_pos i)
  have st := E_step ms hx hi
  have eE : E ms (x % 2 ^ i) = prod (chosen ms x i) := by
    unfold E
    obtain ⟨d, hd⟩ : ∃ d, ms.length = i + d := ⟨ms.length - i, by omega⟩
    rw [hd, chosen_low ms hx d, chosen_mod]
  rw [eE] at st
  have lt : x % 2 ^ i + 2 ^ i < 2 ^ ms.length := by
    refine Nat.lt_of_lt_of_le (m := 2 ^ (i + 1)) ?_ (Nat.pow_le_pow_right (by decide) hi)
    rw [Nat.pow_succ]; omega
  have := E_inj T.ind lt (Nat.two_pow_pos _) (by rw [st, E_zero]; exact e)
  have := Nat.two_pow_pos i
  omega
theorem app_lt {α : Type} {D : List α} {f z : α} {j : Nat} (h : j < D.length) : (D ++ [f]).getD j z = D.getD j z := by
  rw [List.getD_eq_getElem?_getD, List.getD_eq_getElem?_getD, List.getElem?_append_left h]
theorem app_eq {α : Type} {D : List α} {f z : α} {j : Nat} (h : j = D.length) : (D ++ [f]).getD j z = f := by
  subst h
  rw [List.getD_eq_getElem?_getD, List.getElem?_append_right (Nat.le_refl _), Nat.sub_self]
  rfl
theorem map_get {D : List Mk} {h : Mk → Mk} {j : Nat} (hj : j < D.length) : (D.map h).getD j z0 = h (D.getD j z0) := by
  rw [List.getD_eq_getElem?_getD, List.getD_eq_getElem?_getD, List.getElem?_map, List.getElem?_eq_getElem hj]
  rfl
theorem Dn.next {ms : List Mk} (T : Tb ms) {i : Nat} {D : List Mk} {ls : List Nat} {f : Mk} {n : Nat} (hi : i < ms.length) (Q : Dn ms i D ls) (F : Fr ms i D ls f i) (L : IsLd (vec f) n) : Dn ms (i + 1) (D.map (fun d => wl d f n) ++ [f]) (ls ++ [n]) := by
  have fG := F.G
  have fe := G_ev T (by omega) fG
  have lD := Q.len
  have lL := Q.ll
  have lM : (D.map (fun d => wl d f n)).length = i := by rw [List.length_map]; exact lD
  have eb : ∀ d ∈ D, ∀ k, bit (vec (wl d f n)) k = if bit (vec d) n = 1 then (bit (vec d) k + bit (vec f) k) % 2 else bit (vec d) k := fun d hd k => by
    unfold wl
    split
    · exact vec_mul (G_ev T (by omega) (Q.g d hd)).2 fe.2 k
    · rfl
  have gD : ∀ d ∈ D.map (fun d => wl d f n) ++ [f], G ms (i + 1) d := fun d hd => by
    rcases List.mem_append.mp hd with q | q
    · obtain ⟨d0, h0, rfl⟩ := List.mem_map.mp q
      show G ms (i + 1) (wl d0 f n)
      unfold wl
      split
      · exact G_mul T.nice (by omega) (G_up (Q.g d0 h0)) fG
      · exact G_up (Q.g d0 h0)
    · rw [List.mem_singleton.mp q]; exact fG
  have N := G_nice T (n := i + 1) (by omega) gD
  have fin : In (D.map (fun d => wl d f n) ++ [f]) f := mem_in N (List.mem_append_right _ (List.mem_singleton.mpr rfl))
  have din : ∀ d ∈ D, In (D.map (fun d => wl d f n) ++ [f]) d := fun d hd => by
    have h1 := mem_in N (List.mem_append_left _ (List.mem_map.mpr ⟨d, hd, rfl⟩))
    have h1 : In (D.map (fun d => wl d f n) ++ [f]) (wl d f n) := h1
    by_cases c : bit (vec d) n = 1
    · have e : wl d f n = mul d f := by unfold wl; rw [if_pos c]
      have := in_mul N h1 fin
      rw [e, mul_back (G_lt (Q.g d hd)) fe.1] at this
      exact this
    · have e : wl d f n = d := by unfold wl; rw [if_neg c]
      rw [e] at h1
      exact h1
  refine ⟨by rw [List.length_append, lM]; rfl, by rw [List.length_append, lL]; rfl, gD, fun j hj => ?_, fun j k hj hk jk => ?_, fun j hj => ?_⟩
  · by_cases e : j = i
    · subst e
      rw [app_eq lM.symm, app_eq lL.symm]
      exact L
    · have hj' : j < i := by omega
      rw [app_lt (by omega), app_lt (by omega), map_get (by omega)]
      have dm : D.getD j z0 ∈ D := gmem (by omega)
      have l := Q.ld j hj'
      have f0 := F.off j hj'
      have E0 := eb _ dm
      generalize D.getD j z0 = d at *
      generalize ls.getD j 0 = p at *
      by_cases c : bit (vec d) n = 1
      · have np : p < n := by
          rcases Nat.lt_trichotomy p n with q | q | q
          · exact q
          · subst q; rw [L.one] at f0; cases f0
          · rw [l.low n q] at c; cases c
        refine ⟨?_, fun m hm => ?_⟩
        · rw [E0, if_pos c, l.one, f0]
        · rw [E0, if_pos c, l.low m hm, L.low m (by omega)]
      · refine ⟨?_, fun m hm => ?_⟩
        · rw [E0, if_neg c]; exact l.one
        · rw [E0, if_neg c]; exact l.low m hm
  · by_cases e : j = i
    · subst e
      rw [app_eq lM.symm, app_lt (by omega)]
      exact F.off k (by omega)
    · rw [app_lt (by omega), map_get (by omega)]
      have dm : D.getD j z0 ∈ D := gmem (by omega)
      have E0 := eb _ dm
      by_cases ek : k = i
      · subst ek
        rw [app_eq lL.symm, E0]
        split
        · rename_i c; rw [c, L.one]
        · have := bit_lt (vec (D.getD j z0)) n; omega
      · rw [app_lt (by omega), E0, Q.off j k (by omega) (by omega) jk, F.off k (by omega)]
        split <;> rfl
  · by_cases e : j = i
    · subst e
      refine in_trans N (fun x hx => ?_) F.back
      rcases List.mem_append.mp hx with q | q
      · exact din x q
      · rw [List.mem_singleton.mp q]; exact fin
    · exact in_trans N din (Q.back j (by omega))
end M53

set_option maxHeartbeats 4000000
namespace M53
open Pc K51 M54 M57
open Classical in
noncomputable def ldf (v : Nat) : Nat := if h : ∃ n, IsLd v n then h.choose else 0
theorem ldf_is {v n : Nat} (h : IsLd v n) : ldf v = n := by
  have e : ∃ n, IsLd v n := ⟨n, h⟩
  unfold ldf
  rw [dif_pos e]
  exact e.choose_spec.uniq h
noncomputable def ldm (m : Mk) : Nat := ldf (vec m)
def Off (d e : Mk) : Prop := bit (vec d) (ldm e) = 0 ∧ bit (vec e) (ldm d) = 0
structure Dm (ms D : List Mk) : Prop where
  g : ∀ d ∈ D, In ms d
  ld : ∀ d ∈ D, IsLd (vec d) (ldm d)
  off : D.Pairwise Off
  back : ∀ m ∈ ms, In D m
theorem Dn.all {ms D : List Mk} {ls : List Nat} (Q : Dn ms ms.length D ls) : Dm ms D := by
  have el : ∀ j, j < ms.length → ldm (D.getD j z0) = ls.getD j 0 := fun j hj => ldf_is (Q.ld j hj)
  refine ⟨fun d hd => in_G.mpr (Q.g d hd), fun d hd => ?_, ?_, fun m hm => ?_⟩
  · obtain ⟨j, hj, e⟩ := List.mem_iff_getElem.mp hd
    have eg : D.getD j z0 = d := by rw [List.getD_eq_getElem?_getD, List.getElem?_eq_getElem hj]; exact e
    rw [Q.len] at hj
    have l := Q.ld j hj
    rw [eg] at l
    unfold ldm
    rw [ldf_is l]
    exact l
  · refine List.pairwise_iff_getElem.mpr fun i j hi hj ij => ?_
    have ei : D.getD i z0 = D[i] := by rw [List.getD_eq_getElem?_getD, List.getElem?_eq_getElem hi]; rfl
    have ej : D.getD j z0 = D[j] := by rw [List.getD_eq_getElem?_getD, List.getElem?_eq_getElem hj]; rfl
    rw [Q.len] at hi hj
    rw [← ei, ← ej]
    unfold Off
    rw [el i hi, el j hj]
    exact ⟨Q.off i j hi hj (by omega), Q.off j i hj hi (by omega)⟩
  · obtain ⟨j, hj, e⟩ := List.mem_iff_getElem.mp hm
    have eg : ms.getD j z0 = m := by rw [List.getD_eq_getElem?_getD, List.getElem?_eq_getElem hj]; exact e
    rw [← eg]
    exact Q.back j hj
theorem in_nice {ms : List Mk} (T : Tb ms) {D : List Mk} (h : ∀ d ∈ D, In ms d) : Nice D := G_nice T (Nat.le_refl _) fun d hd => in_G.mp (h d hd)
theorem Dm.perm {ms D S : List Mk} (T : Tb ms) (Q : Dm ms D) (p : S.Perm D) : Dm ms S := by
  have gS : ∀ d ∈ S, In ms d := fun d hd => Q.g d (p.mem_iff.mp hd)
  have N := in_nice T gS
  refine ⟨gS, fun d hd => Q.ld d (p.mem_iff.mp hd), ?_, fun m hm => in_trans N (fun d hd => mem_in N (p.mem_iff.mpr hd)) (Q.back m hm)⟩
  exact (p.pairwise_iff fun {a b} h => ⟨h.2, h.1⟩).mpr Q.off
theorem in_v6 {ms : List Mk} (T : Tb ms) {g : Mk} (h : In ms g) : V6 g := (G_ev T (Nat.le_refl _) (in_G.mp h)).2
theorem vec_lt {m : Mk} (h : V6 m) : vec m < 2 ^ 12 := by
  have a : m.2.1 < 64 := h.f
  have b : m.2.2 < 64 := h.s
  unfold vec
  show _ < 4096
  omega
theorem vec_inj {a b : Mk} (ha : V6 a) (hb : V6 b) (e : vec a = vec b) : a.2 = b.2 := by
  have a1 : a.2.1 < 64 := ha.f
  have b1 : b.2.1 < 64 := hb.f
  unfold vec at e
  exact Prod.ext (by omega) (by omega)
theorem xs_ext {fs gs : List Nat} {c : Nat → Bool} : ∀ m, (∀ j, j < m → fs.getD j 0 = gs.getD j 0) → xs fs c m = xs gs c m := fun m h => xs_congr m fun j hj => ⟨rfl, h j hj⟩
theorem xs_lt {fs : List Nat} (c : Nat → Bool) {N : Nat} : ∀ m, (∀ j, j < m → fs.getD j 0 < 2 ^ N) → xs fs c m < 2 ^ N
  | 0, _ => Nat.two_pow_pos N
  | m + 1, h => by
    have ih := xs_lt c m fun j hj => h j (by omega)
    unfold xs
    split
    · exact Nat.xor_lt_two_pow ih (h m (by omega))
    · exact ih
theorem sget0 (S : List Mk) (j : Nat) : (S.map vec).getD j 0 = vec (S.getD j z0) := by
  rw [List.getD_eq_getElem?_getD, List.getD_eq_getElem?_getD, List.getElem?_map]
  cases S[j]? <;> rfl
theorem xs_vec {S : List Mk} (c : Nat → Bool) (v : ∀ j, j < S.length → V6 (S.getD j z0)) : ∀ m, m ≤ S.length → xs (S.map vec) c m = xs (fOf S) c m + 64 * xs (sOf S) c m
  | 0, _ => rfl
  | m + 1, hm => by
    have ih := xs_vec c v m (by omega)
    unfold xs
    split
    · rw [ih, sget0, fget, sget]
      have vm := v m (by omega)
      have lf := xs_lt (fs := fOf S) c (N := 6) m fun j hj => by rw [fget]; exact (v j (by omega)).f
      have lsn := xs_lt (fs := sOf S) c (N := 6) m fun j hj => by rw [sget]; exact (v j (by omega)).s
      have key := vec_mul (a := (0, xs (fOf S) c m, xs (sOf S) c m)) (b := S.getD m z0) ⟨lf, lsn⟩ vm
      have l1 : vec ((0, xs (fOf S) c m, xs (sOf S) c m) : Mk) < 2 ^ 12 := vec_lt ⟨lf, lsn⟩
      have l2 := vec_lt vm
      have l3 : vec (mul (0, xs (fOf S) c m, xs (sOf S) c m) (S.getD m z0)) < 2 ^ 12 := vec_lt (V6.mul ⟨lf, lsn⟩ vm)
      have := eq_of_bits 12 (vec ((0, xs (fOf S) c m, xs (sOf S) c m) : Mk) ^^^ vec (S.getD m z0)) _ (Nat.xor_lt_two_pow l1 l2) l3 fun n hn => by rw [M54.bit_xor, key]
      exact this
    · exact ih
theorem E_vec {S : List Mk} (v : ∀ j, j < S.length → V6 (S.getD j z0)) (x : Nat) : vec (E S x) = xs (S.map vec) (fun j => decide (bit x j = 1)) (S.map vec).length := by
  rw [List.length_map, xs_vec _ v _ (Nat.le_refl _), ← xs_X, ← xs_X]
  unfold vec E
  rw [prod_f, prod_s]
  rfl
theorem spans {S R : List Mk} (v : ∀ j, j < S.length → V6 (S.getD j z0)) (h : ∀ r ∈ R, In S r) : Spans (S.map vec) (R.map vec) := by
  intro i hi
  rw [List.length_map] at hi
  obtain ⟨x, _, e⟩ := h _ (gmem hi)
  exact ⟨_, by rw [sget0]; show vec (R.getD i (0, 0, 0)) = _; rw [← e]; exact E_vec v x⟩
theorem lget0 (S : List Mk) {j : Nat} (hj : j < S.length) : (S.map ldm).getD j 0 = ldm (S.getD j z0) := by
  rw [List.getD_eq_getElem?_getD, List.getD_eq_getElem?_getD, List.getElem?_map, List.getElem?_eq_getElem hj]
  rfl
theorem Dm.red {ms S : List Mk} (Q : Dm ms S) (o : S.Pairwise fun a b => ldm a ≤ ldm b) : Red (S.map vec) (S.map ldm) := by
  have offs : ∀ i j, i < S.length → j < S.length → i ≠ j → bit (vec (S.getD i z0)) (ldm (S.getD j z0)) = 0 := fun i j hi hj ij => by
    have ei : S.getD i z0 = S[i] := by rw [List.getD_eq_getElem?_getD, List.getElem?_eq_getElem hi]; rfl
    have ej : S.getD j z0 = S[j] := by rw [List.getD_eq_getElem?_getD, List.getElem?_eq_getElem hj]; rfl
    rw [ei, ej]
    rcases Nat.lt_or_gt_of_ne ij with lt | lt
    · exact (List.pairwise_iff_getElem.mp Q.off i j hi hj lt).1
    · exact (List.pairwise_iff_getElem.mp Q.off j i hj hi lt).2
  refine ⟨by rw [List.length_map, List.length_map], fun i hi => ?_, fun i j hi hj ij => ?_, ?_⟩
  · rw [List.length_map] at hi
    rw [sget0, lget0 S hi]
    exact Q.ld _ (gmem hi)
  · rw [List.length_map] at hi hj
    rw [sget0, lget0 S hj]
    exact offs i j hi hj ij
  · rw [List.pairwise_map]
    refine (List.Pairwise.and_mem.mp (o.and Q.off)).imp fun {a b} h => ?_
    obtain ⟨ha, hb, le, off⟩ := h
    refine Nat.lt_of_le_of_ne le fun e => ?_
    have := (Q.ld a ha).one
    rw [e, off.1] at this
    cases this
theorem reduced_uniq {ms rs S R : List Mk} (T : Tb ms) (T' : Tb rs) (Q : Dm ms S) (Q' : Dm rs R) (o : S.Pairwise fun a b => ldm a ≤ ldm b) (o' : R.Pairwise fun a b => ldm a ≤ ldm b)
    (h : ∀ m ∈ ms, In rs m) (h' : ∀ r ∈ rs, In ms r) : S = R := by
  have NS := in_nice T Q.g
  have NR := in_nice T' Q'.g
  have SinR : ∀ s ∈ S, In R s := fun s hs => in_trans NR Q'.back (in_trans T'.nice h (Q.g s hs))
  have RinS : ∀ r ∈ R, In S r := fun r hr => in_trans NS Q.back (in_trans T.nice h' (Q'.g r hr))
  have vS : ∀ j, j < S.length → V6 (S.getD j z0) := fun j hj => in_v6 T (Q.g _ (gmem hj))
  have vR : ∀ j, j < R.length → V6 (R.getD j z0) := fun j hj => in_v6 T' (Q'.g _ (gmem hj))
  have e := red_uniq (Q.red o) (Q'.red o') (spans vS RinS) (spans vR SinR)
  have len : S.length = R.length := by have := congrArg List.length e; simpa using this
  refine List.ext_getElem len fun i h1 h2 => ?_
  have e1 : S.getD i z0 = S[i] := by rw [List.getD_eq_getElem?_getD, List.getElem?_eq_getElem h1]; rfl
  have e2 : R.getD i z0 = R[i] := by rw [List.getD_eq_getElem?_getD, List.getElem?_eq_getElem h2]; rfl
  have ev : vec (S.getD i z0) = vec (R.getD i z0) := by rw [← sget0, ← sget0, e]
  rw [← e1, ← e2]
  exact in_uniq T.ind (Q.g _ (gmem h1)) (in_trans T.nice h' (Q'.g _ (gmem h2))) (vec_inj (vS i h1) (vR i h2) ev)
end M53

set_option maxHeartbeats 4000000
namespace M53
open Pc K51 M54 M57
structure Alike (ms rs : List Mk) : Prop where
  t : Tb rs
  to : ∀ m ∈ ms, In rs m
  fro : ∀ r ∈ rs, In ms r
theorem Alike.refl {ms : List Mk} (T : Tb ms) : Alike ms ms := ⟨T, fun m hm => mem_in T.nice hm, fun m hm => mem_in T.nice hm⟩
theorem Alike.trans {ms rs qs : List Mk} (T : Tb ms) (a : Alike ms rs) (b : Alike rs qs) : Alike ms qs :=
  ⟨b.t, fun m hm => in_trans b.t.nice b.to (a.to m hm), fun r hr => in_trans T.nice a.fro (b.fro r hr)⟩
theorem Alike.rev {ms : List Mk} (T : Tb ms) : Alike ms ms.reverse := by
  have N : Nice ms.reverse := in_nice T fun d hd => mem_in T.nice (List.mem_reverse.mp hd)
  exact ⟨⟨N, fun m hm => T.v6 m (List.mem_reverse.mp hm), indep_rev T.ind⟩, fun m hm => mem_in N (List.mem_reverse.mpr hm), fun r hr => mem_in T.nice (List.mem_reverse.mp hr)⟩
theorem Alike.row {ms : List Mk} (T : Tb ms) {t o : Nat} (ht : t < ms.length) (ho : o < ms.length) (hto : t ≠ o) : Alike ms (ms.set t (mul (ms.getD t z0) (ms.getD o z0))) := by
  have tm := gmem (ms := ms) ht
  have om := gmem (ms := ms) ho
  have fro : ∀ r ∈ ms.set t (mul (ms.getD t z0) (ms.getD o z0)), In ms r := fun r hr => by
    rcases List.mem_or_eq_of_mem_set hr with q | q
    · exact mem_in T.nice q
    · rw [q]; exact in_mul T.nice (mem_in T.nice tm) (mem_in T.nice om)
  have N := in_nice T fro
  have gt := set_getD ms (mul (ms.getD t z0) (ms.getD o z0)) t ht
  have go := set_getD ms (mul (ms.getD t z0) (ms.getD o z0)) o ht
  rw [if_pos rfl] at gt
  rw [if_neg (Ne.symm hto)] at go
  have ll : (ms.set t (mul (ms.getD t z0) (ms.getD o z0))).length = ms.length := List.length_set
  have t' := gmem (ms := ms.set t (mul (ms.getD t z0) (ms.getD o z0))) (i := t) (by omega)
  have o' := gmem (ms := ms.set t (mul (ms.getD t z0) (ms.getD o z0))) (i := o) (by omega)
  rw [gt] at t'
  rw [go] at o'
  refine ⟨⟨N, fun m hm => in_v6 T (fro m hm), ?_⟩, fun m hm => ?_, fro⟩
  · refine indep_row (t := t) (o := o) ll hto ht ho ?_ (fun j hj nj => ?_) T.ind
    · rw [fget, sget, gt, fget, fget, sget, sget]
      exact ⟨rfl, rfl⟩
    · rw [fget, sget, set_getD _ _ _ ht, if_neg nj, fget, sget]
      exact ⟨rfl, rfl⟩
  · obtain ⟨j, hj, e⟩ := List.mem_iff_getElem.mp hm
    have eg : ms.getD j (0, 0, 0) = m := by rw [List.getD_eq_getElem?_getD, List.getElem?_eq_getElem hj]; exact e
    by_cases ej : j = t
    · subst ej
      have := in_mul N (mem_in N t') (mem_in N o')
      rw [mul_back (T.nice.q _ tm) (T.nice.even _ om)] at this
      rw [← eg]
      exact this
    · have gj := set_getD ms (mul (ms.getD t z0) (ms.getD o z0)) j ht
      rw [if_neg ej, eg] at gj
      have := gmem (ms := ms.set t (mul (ms.getD t z0) (ms.getD o z0))) (i := j) (by omega)
      rw [gj] at this
      exact mem_in N this
def num (c : Nat → Bool) : Nat → Nat
  | 0 => 0
  | m + 1 => num c m + (if c m then 2 ^ m else 0)
theorem num_lt (c : Nat → Bool) : ∀ m, num c m < 2 ^ m
  | 0 => Nat.one_pos
  | m + 1 => by
    have := num_lt c m
    unfold num
    rw [Nat.pow_succ]
    split <;> omega
theorem num_bit (c : Nat → Bool) : ∀ m j, j < m → decide (bit (num c m) j = 1) = c j
  | m + 1, j, hj => by
    have lt := num_lt c m
    unfold num
    by_cases e : j = m
    · subst e
      cases hc : c j
      · simp [bit_low lt (Nat.le_refl _)]
      · simp only [if_true]
        have : bit (num c j + 2 ^ j) j = 1 := by
          unfold bit
          rw [Nat.add_div_right _ (Nat.two_pow_pos j), Nat.div_eq_of_lt lt]
        rw [this]; rfl
    · have ih := num_bit c m j (by omega)
      split
      · have : bit (num c m + 2 ^ m) j = bit (num c m) j := by
          rw [← bit_mod (num c m + 2 ^ m) m (by omega), Nat.add_mod_right, Nat.mod_eq_of_lt lt]
        rw [this]; exact ih
      · rw [Nat.add_zero]; exact ih
theorem E_choice (ms : List Mk) (c : Nat → Bool) : (E ms (num c ms.length)).2 = (xs (fOf ms) c ms.length, xs (sOf ms) c ms.length) := by
  have e : ∀ fs : List Nat, Xm fs (num c ms.length) ms.length = xs fs c ms.length := fun fs => by
    rw [xs_X]
    exact xs_congr _ fun j hj => ⟨num_bit c _ j hj, rfl⟩
  unfold E
  refine Prod.ext ?_ ?_
  · show (prod (chosen ms (num c ms.length) ms.length)).2.1 = _
    rw [prod_f]; exact e _
  · show (prod (chosen ms (num c ms.length) ms.length)).2.2 = _
    rw [prod_s]; exact e _
theorem indep_snoc {ms : List Mk} {m : Mk} (I : Indep ms) (h : ∀ x, x < 2 ^ ms.length → (E ms x).2 ≠ m.2) : Indep (ms ++ [m]) := by
  intro c hf hs j hj
  have ll : (ms ++ [m]).length = ms.length + 1 := by rw [List.length_append]; rfl
  have ef : ∀ k, k < ms.length → (fOf (ms ++ [m])).getD k 0 = (fOf ms).getD k 0 := fun k hk => by rw [fget, fget, app_lt hk]
  have es : ∀ k, k < ms.length → (sOf (ms ++ [m])).getD k 0 = (sOf ms).getD k 0 := fun k hk => by rw [sget, sget, app_lt hk]
  have lf : (fOf (ms ++ [m])).getD ms.length 0 = m.2.1 := by rw [fget, app_eq rfl]
  have lsn : (sOf (ms ++ [m])).getD ms.length 0 = m.2.2 := by rw [sget, app_eq rfl]
  have xf := xs_ext (fs := fOf (ms ++ [m])) (gs := fOf ms) (c := c) ms.length ef
  have xsn := xs_ext (fs := sOf (ms ++ [m])) (gs := sOf ms) (c := c) ms.length es
  rw [ll] at hf hs hj
  unfold xs at hf hs
  rw [lf, xf] at hf
  rw [lsn, xsn] at hs
  have zx : ∀ {a b : Nat}, a ^^^ b = 0 → a = b := fun {a b} z => by
    have := congrArg (· ^^^ b) z
    simpa [Nat.xor_assoc] using this
  cases hc : c ms.length with
  | true =>
    rw [hc, if_pos rfl] at hf hs
    refine absurd ?_ (h (num c ms.length) (num_lt c _))
    rw [E_choice, zx hf, zx hs]
  | false =>
    rw [hc, if_neg (by decide)] at hf hs
    by_cases e : j = ms.length
    · rw [e]; exact hc
    · exact I c hf hs j (by omega)
end M53

set_option maxHeartbeats 4000000
namespace K53
open PySem PySem.Spec PyProof.Rows L2 Pc K51 M54 M57
open M53 (IsLd vec V6 wl vec_bit)
def leastOk (w n : Nat) : Bool := decide (Builtin.Int.intBits (Builtin.bitAnd (w : Int) (-(w : Int))) = n + 1) && decide (bit w n = 1) && (List.range n).all fun m => decide (bit w m = 0)
theorem least_all : ((List.range 64).all fun w => decide (w = 0) || (List.range 6).any fun n => leastOk w n) = true := by decide +kernel
theorem least_ok {w : Nat} (h : w < 64) (h0 : w ≠ 0) : ∃ n : Nat, n < 6 ∧ Builtin.Int.intBits (Builtin.bitAnd (w : Int) (-(w : Int))) = n + 1 ∧ IsLd w n := by
  have a := List.all_eq_true.mp least_all w (List.mem_range.mpr h)
  rw [decide_eq_false h0, Bool.false_or] at a
  obtain ⟨n, hn, e⟩ := List.any_eq_true.mp a
  unfold leastOk at e
  rw [Bool.and_eq_true, Bool.and_eq_true] at e
  exact ⟨n, List.mem_range.mp hn, of_decide_eq_true e.1.1, of_decide_eq_true e.1.2, fun m hm => of_decide_eq_true (List.all_eq_true.mp e.2 m (List.mem_range.mpr hm))⟩
def spLeast : Sp := fun vs H Q _ => ∃ w : Nat, vs = [.int w] ∧ w < 64 ∧ w ≠ 0 ∧ ∀ n : Nat, n < 6 → IsLd w n → Q (.int n) H
def spLead (K : PySem.W.Frag) : Sp := fun vs H Q _ => ∃ (p : Addr) (m : Mk) (n : Nat), vs = [.ref p] ∧ SqT K H p (L3 m) ∧ V6 m ∧ IsLd (vec m) n ∧ Q (.int n) H
def spHas (K : PySem.W.Frag) : Sp := fun vs H Q _ => ∃ (p : Addr) (m : Mk) (n : Nat), vs = [.ref p, .int n] ∧ SqT K H p (L3 m) ∧ V6 m ∧ Q (.bl (decide (bit (vec m) n = 1))) H
def spWithout : Sp := fun vs H Q _ => ∃ (p r : Addr) (m d : Mk) (n : Nat), vs = [.ref p, .ref r] ∧ H p = some (T3 m) ∧ H r = some (T3 d) ∧ V6 m ∧ V6 d ∧ IsLd (vec d) n ∧ ∀ (q : Addr) (H' : Hp), Same H H' → H' q = some (T3 (wl m d n)) → Q (.ref q) H'
section
variable {P : Program} {w : World} {K : PySem.W.Frag} {mg : Str → Option Value} {base : Heap} {k : Nat} {h : Heap}
theorem sc_least : FnScope ["word"] ["word"] (defScope (top 27)) := ⟨rfl, rfl, rfl, by decide +kernel, rfl, by decide +kernel, by decide +kernel⟩
theorem ok_least (F : FunAt K "least_cell" (top 27) .none) (X : K.In h) (G : h.Ns mainGlobals mg) : Cal P w K mg base (k + 1) "least_cell" ["word"] spLeast := by
  have nd := sc_least.nd
  refine F.cal X G sc_least (bnd1 fun _ _ _ _ _ _ _ => rfl) (fun vs H Q E' h => ?_) (fun f cdv A outer s H vs Q E' hr h => ?_)
  · obtain ⟨n, rfl, _⟩ := h; rfl
  obtain ⟨x, rfl, x64, x0, q⟩ := h
  obtain ⟨n, n6, e, l⟩ := least_ok x64 x0
  refine ⟨_, (@pss_one _ _ _ (ps_ret (pe_op op_sub (pe_bm0 PySem.F.plainAttrs_int PySem.F.slot_int_bit_length PySem.F.type_int_bit_length mt_bitlen (pe_op op_and (pv 0) (pe_un un_neg (pv 0)))) pe_int))), ?_⟩
  try dsimp only [cxK]
  refine ⟨_, rfl, _, rfl, _, rfl, _, _, rfl, rfl, rfl, _, rfl, rfl, _, _, rfl, rfl, ?_⟩
  show Q (.int (((Builtin.Int.intBits (Builtin.bitAnd (x : Int) (-(x : Int))) : Nat) : Int) - 1)) H
  rw [e, show (((n + 1 : Nat) : Int) - 1) = (n : Int) by omega]
  exact q n n6 l
theorem sc_lead : FnScope ["mark"] ["mark"] (defScope (top 26)) := ⟨rfl, rfl, rfl, by decide +kernel, rfl, by decide +kernel, by decide +kernel⟩
theorem ok_lead (F : FunAt K "lead" (top 26) .none) (X : K.In h) (G : h.Ns mainGlobals mg) {tF : Tok} (gF : mg "FIRST_SIGN_LEAD" = some (.int 6 tF)) (c_least_cell : Cal P w K mg base k "least_cell" ["word"] spLeast) : Cal P w K mg base (k + 1) "lead" ["mark"] (spLead K) := by
  have nd := sc_lead.nd
  refine F.cal X G sc_lead (bnd1 fun _ _ _ _ _ _ _ => rfl) (fun vs H Q E' h => ?_) (fun f cdv A outer s H vs Q E' hr h => ?_)
  · obtain ⟨p, m, n, rfl, _⟩ := h; rfl
  obtain ⟨p, m, n, rfl, S, v6, l, q⟩ := h
  refine ⟨_, (@pss_cons _ _ _ _ _ (ps_if (pt_cmpR op_ne (pe_ix ix_tup (pv 0) pe_int (fun _ _ => rfl)) pe_int (nomark _))
      (@pss_one _ _ _ (ps_ret (pe_cal c_least_cell hr rfl (pa_cons (pe_ix ix_tup (pv 0) pe_int (fun _ _ => rfl)) pa_nil))))
      pss_nil)
    (@pss_one _ _ _ (ps_ret (pe_op op_add (pe_glob (v := .int 6) rfl gF ⟨tF, rfl⟩) (pe_cal c_least_cell hr rfl (pa_cons (pe_ix ix_tup (pv 0) pe_int (fun _ _ => rfl)) pa_nil)))))), ?_⟩
  try dsimp only [cxK]
  refine ⟨_, rfl, p, _, _, _, rfl, rfl, S, rfl, rfl, _, rfl, neI (fun z => ?_) (fun z => ?_)⟩
  · have f0 : m.2.1 ≠ 0 := fun e => z (by rw [e]; rfl)
    refine ⟨_, rfl, p, _, _, _, rfl, rfl, S, rfl, m.2.1, rfl, v6.f, f0, fun n' h6 l' => ?_⟩
    have l2 : IsLd (vec m) n' := ⟨by unfold vec; rw [vec_bit v6.f, if_pos h6]; exact l'.one, fun k hk => by unfold vec; rw [vec_bit v6.f, if_pos (by omega)]; exact l'.low k hk⟩
    rw [l2.uniq l]
    exact q
  · have f0 : m.2.1 = 0 := by
      have := z
      omega
    have s0 : m.2.2 ≠ 0 := fun e => by
      have := l.one
      unfold vec at this
      rw [f0, e, bit_zero] at this
      cases this
    refine ⟨_, rfl, p, _, _, _, rfl, rfl, S, rfl, m.2.2, rfl, v6.s, s0, fun n' h6 l' => ⟨_, _, rfl, rfl, ?_⟩⟩
    have l2 : IsLd (vec m) (6 + n') := ⟨by unfold vec; rw [vec_bit v6.f, if_neg (by omega), show 6 + n' - 6 = n' by omega]; exact l'.one, fun k hk => by
      unfold vec
      rw [vec_bit v6.f]
      split
      · rw [f0, bit_zero]
      · exact l'.low _ (by omega)⟩
    have e := l2.uniq l
    show Q (.int (6 + (n' : Int))) H
    rw [show (6 + (n' : Int)) = ((6 + n' : Nat) : Int) by omega, e]
    exact q
theorem sc_has : FnScope ["mark", "place"] ["mark", "place"] (defScope (top 28)) := ⟨rfl, rfl, rfl, by decide +kernel, rfl, by decide +kernel, by decide +kernel⟩
theorem ok_has (F : FunAt K "has_at_lead" (top 28) .none) (X : K.In h) (G : h.Ns mainGlobals mg) {tF : Tok} (gF : mg "FIRST_SIGN_LEAD" = some (.int 6 tF)) : Cal P w K mg base (k + 1) "has_at_lead" ["mark", "place"] (spHas K) := by
  have nd := sc_has.nd
  refine F.cal X G sc_has (bnd2 fun _ _ _ _ _ _ _ _ => rfl) (fun vs H Q E' h => ?_) (fun f cdv A outer s H vs Q E' hr h => ?_)
  · obtain ⟨p, m, n, rfl, _⟩ := h; rfl
  obtain ⟨p, m, n, rfl, S, v6, q⟩ := h
  have one : ∀ (x j : Nat), decide (V.int (Builtin.bitAnd ((x : Int) / 2 ^ ((j : Int)).toNat) 1) = V.int 1) = decide (bit x j = 1) := fun x j => by
    rw [Int.toNat_natCast, show (x : Int) / 2 ^ j = ((x / 2 ^ j : Nat) : Int) by simp, one_and, decide_eq_decide]
    unfold bit
    constructor
    · intro z; have := V.int.inj z; omega
    · intro z; congr 1; omega
  refine ⟨_, (@pss_cons _ _ _ _ _ (ps_if (pt_cmpR op_lt (pv 1) (pe_glob (v := .int 6) rfl gF ⟨tF, rfl⟩) (nomark _))
      (@pss_one _ _ _ (ps_ret (pe_cmpR op_eq (pe_op op_and (pe_op op_shr (pe_ix ix_tup (pv 0) pe_int (fun _ _ => rfl)) (pv 1)) pe_int) pe_int (nomark _))))
      pss_nil)
    (@pss_one _ _ _ (ps_ret (pe_cmpR op_eq (pe_op op_and (pe_op op_shr (pe_ix ix_tup (pv 0) pe_int (fun _ _ => rfl)) (pe_op op_sub (pv 1) (pe_glob (v := .int 6) rfl gF ⟨tF, rfl⟩))) pe_int) pe_int (nomark _))))), ?_⟩
  try dsimp only [cxK]
  refine ⟨_, rfl, _, _, rfl, rfl, _, rfl, decI (fun c => ?_) (fun c => ?_)⟩
  · refine ⟨_, rfl, p, _, _, _, rfl, rfl, S, rfl, _, rfl, _, _, rfl, rfl, by omega, _, _, rfl, rfl, rfl, ?_⟩
    show Q (.bl (decide (V.int (Builtin.bitAnd ((m.2.1 : Int) / 2 ^ ((n : Int)).toNat) 1) = V.int 1))) H
    rw [one]
    unfold vec at q
    rw [vec_bit v6.f, if_pos (by omega)] at q
    exact q
  · refine ⟨_, rfl, p, _, _, _, rfl, rfl, S, rfl, _, rfl, _, _, rfl, rfl, _, _, rfl, rfl, by omega, _, _, rfl, rfl, rfl, ?_⟩
    show Q (.bl (decide (V.int (Builtin.bitAnd ((m.2.2 : Int) / 2 ^ ((n : Int) - 6).toNat) 1) = V.int 1))) H
    rw [show ((n : Int) - 6) = ((n - 6 : Nat) : Int) by omega, one]
    unfold vec at q
    rw [vec_bit v6.f, if_neg (by omega)] at q
    exact q
theorem sc_without : FnScope ["mark", "row"] ["mark", "row"] (defScope (top 25)) := ⟨rfl, rfl, rfl, by decide +kernel, rfl, by decide +kernel, by decide +kernel⟩
theorem ok_without (F : FunAt K "without_lead" (top 25) .none) (X : K.In h) (G : h.Ns mainGlobals mg) (c_has_at_lead : Cal P w K mg base k "has_at_lead" ["mark", "place"] (spHas K)) (c_lead : Cal P w K mg base k "lead" ["mark"] (spLead K)) (c_product : Cal P w K mg base k "product" ["one", "other"] (spProduct K)) :
    Cal P w K mg base (k + 1) "without_lead" ["mark", "row"] spWithout := by
  have nd := sc_without.nd
  refine F.cal X G sc_without (bnd2 fun _ _ _ _ _ _ _ _ => rfl) (fun vs H Q E' h => ?_) (fun f cdv A outer s H vs Q E' hr h => ?_)
  · obtain ⟨p, r, m, d, n, rfl, _⟩ := h; rfl
  obtain ⟨p, r, m, d, n, rfl, hp, hr0, vm, vd, l, kq⟩ := h
  refine ⟨_, (@pss_one _ _ _ (ps_ret (pe_ifExp (pt_val (pe_cal c_has_at_lead hr rfl (pa_cons (pv 0) (pa_cons (pe_cal c_lead hr rfl (pa_cons (pv 1) pa_nil)) pa_nil)))) (pe_cal c_product hr rfl (pa_cons (pv 0) (pa_cons (pv 1) pa_nil))) (pv 0)))), ?_⟩
  try dsimp only [cxK]
  refine ⟨_, rfl, _, rfl, r, d, n, rfl, SqT.of hr0, vd, l, p, m, n, rfl, SqT.of hp, vm, _, rfl, decI (fun c => ?_) (fun c => ?_)⟩
  · refine ⟨_, rfl, _, rfl, p, r, m, d, rfl, SqT.of hp, SqT.of hr0, fun q H' S e => kq q H' S ?_⟩
    unfold wl
    rw [if_pos c]
    exact e
  · refine ⟨_, rfl, kq p H (Same.refl _) ?_⟩
    unfold wl
    rw [if_neg c]
    exact hp
end
end K53

set_option maxHeartbeats 4000000
namespace K53
open PySem PySem.Spec PyProof.Rows L2 Pc K51 M54 M57
open M53 (IsLd vec V6 wl vec_bit ev)
def spWord : Sp := fun vs H Q _ => ∃ x N : Nat, vs = [.int x, .int N] ∧ x < 2 ^ N ∧ Q (.bl true) H
def spMark : Sp := fun vs H Q _ => ∃ (p : Addr) (m : Mk) (N : Nat), vs = [.ref p, .int N] ∧ H p = some (T3 m) ∧ Okm N m ∧ Q (.bl true) H
def spEven (K : PySem.W.Frag) : Sp := fun vs H Q _ => ∃ (p : Addr) (m : Mk), vs = [.ref p] ∧ SqT K H p (L3 m) ∧ ev m ∧ Q (.bl true) H
def spEvM : Sp := fun vs H Q _ => ∃ (p : Addr) (m : Mk) (N : Nat), vs = [.ref p, .int N] ∧ H p = some (T3 m) ∧ Okm N m ∧ ev m ∧ Q (.bl true) H
def spComAll (K : PySem.W.Frag) : Sp := fun vs H Q _ => ∃ (pm l : Addr) (ps : List Addr) (ms : List Mk) (m : Mk), vs = [.ref pm, .ref l] ∧ H pm = some (T3 m) ∧ SqL K H l (ps.map V.ref) ∧ Mks H ps ms ∧ ms.length ≤ 12 ∧ (∀ r ∈ ms, comm m r = 0) ∧ ∀ H', Same H H' → Q (.bl true) H'
theorem all_true (n : Nat) : ((List.replicate n true).all id) = true := by rw [List.all_replicate]; split <;> rfl
section
variable {P : Program} {w : World} {K : PySem.W.Frag} {mg : Str → Option Value} {base : Heap} {k : Nat} {h : Heap}
theorem sc_iswhole : FnScope ["thing"] ["thing"] (defScope (top 4)) := ⟨rfl, rfl, rfl, by decide +kernel, rfl, by decide +kernel, by decide +kernel⟩
theorem ok_iswhole (F : FunAt K "is_whole" (top 4) .none) (X : K.In h) (G : h.Ns mainGlobals mg) (B : Bs mg) : Cal P w K mg base (k + 1) "is_whole" ["thing"] spWhole := by
  have nd := sc_iswhole.nd
  refine F.cal X G sc_iswhole (bnd1 fun _ _ _ _ _ _ _ => rfl) (fun vs H Q E h => ?_) (fun f cdv A outer s H vs Q E hr h => ?_)
  · obtain ⟨i, rfl, _⟩ := h; rfl
  obtain ⟨i, rfl, q⟩ := h
  refine ⟨_, (@pss_one _ _ _ (ps_ret (pe_and (pe_callB call_isinst rfl B.isinstance boot_isinstance (pa_cons (pv 0) (pa_cons (pe_bltn (v := .ty "int") rfl B.int boot_int rfl) pa_nil))) (pe_one (pe_not (pe_callB call_isinst rfl B.isinstance boot_isinstance (pa_cons (pv 0) (pa_cons (pe_bltn (v := .ty "bool") rfl B.bool boot_bool rfl) pa_nil)))))))), ?_⟩
  try dsimp only [cxK]
  refine ⟨_, rfl, _, _, _, true, rfl, TyOf.int i, kit_ii K, _, rfl, iteT ?_⟩
  exact ⟨_, rfl, _, _, _, false, rfl, TyOf.int i, kit_ib K, _, rfl, q⟩
theorem sc_isword : FnScope ["thing", "cells"] ["thing", "cells"] (defScope (top 7)) := ⟨rfl, rfl, rfl, by decide +kernel, rfl, by decide +kernel, by decide +kernel⟩
theorem ok_isword (F : FunAt K "is_word" (top 7) .none) (X : K.In h) (G : h.Ns mainGlobals mg) (c_is_whole : Cal P w K mg base k "is_whole" ["thing"] spWhole) : Cal P w K mg base (k + 1) "is_word" ["thing", "cells"] spWord := by
  have nd := sc_isword.nd
  refine F.cal X G sc_isword (bnd2 fun _ _ _ _ _ _ _ _ => rfl) (fun vs H Q E h => ?_) (fun f cdv A outer s H vs Q E hr h => ?_)
  · obtain ⟨x, N, rfl, _⟩ := h; rfl
  obtain ⟨x, N, rfl, lt, q⟩ := h
  refine ⟨_, (@pss_cons _ _ _ _ _ (ps_if (pt_not (PW.pt (pw_and (pt_val (pe_cal c_is_whole hr rfl (pa_cons (pv 0) pa_nil))) (pw_and1 (pt_val (pe_cal c_is_whole hr rfl (pa_cons (pv 1) pa_nil)))))))
      (@pss_one _ _ _ (ps_ret pe_bl))
      pss_nil)
    (@pss_one _ _ _ (ps_ret (pe_and (pe_cmpR op_ge (pv 0) pe_int (nomark _)) (pe_one (pe_cmpR op_le (pe_bm0 PySem.F.plainAttrs_int PySem.F.slot_int_bit_length PySem.F.type_int_bit_length mt_bitlen (pv 0)) (pv 1) (nomark _))))))), ?_⟩
  try dsimp only [cxK]
  refine ⟨_, rfl, _, rfl, _, rfl, iteT ⟨_, rfl, _, rfl, _, rfl, iteF ?_⟩⟩
  refine ⟨_, rfl, _, _, rfl, rfl, _, rfl, decI (fun _ => ?_) (fun z => absurd (show (x : Int) ≥ 0 by omega) z)⟩
  refine ⟨_, rfl, rfl, _, rfl, rfl, _, rfl, _, _, rfl, rfl, ?_⟩
  have b := bl_le.mpr lt
  rw [bits_bl]
  show Q (.bl (decide (((bl x : Nat) : Int) ≤ (N : Int)))) H
  rw [decide_eq_true (by omega)]
  exact q
theorem sc_ismark : FnScope ["thing", "cells"] ["thing", "cells"] (defScope (top 8)) := ⟨rfl, rfl, rfl, by decide +kernel, rfl, by decide +kernel, by decide +kernel⟩
theorem ok_ismark (F : FunAt K "is_mark" (top 8) .none) (X : K.In h) (G : h.Ns mainGlobals mg) (B : Bs mg) (c_is_whole : Cal P w K mg base k "is_whole" ["thing"] spWhole) (c_is_word : Cal P w K mg base k "is_word" ["thing", "cells"] spWord) : Cal P w K mg base (k + 1) "is_mark" ["thing", "cells"] spMark := by
  have nd := sc_ismark.nd
  refine F.cal X G sc_ismark (bnd2 fun _ _ _ _ _ _ _ _ => rfl) (fun vs H Q E' h => ?_) (fun f cdv A outer s H vs Q E' hr h => ?_)
  · obtain ⟨p, m, N, rfl, _⟩ := h; rfl
  obtain ⟨p, m, N, rfl, hp, ok, q⟩ := h
  have SP : SqT K H p (L3 m) := SqT.of hp
  have q4 := ok.q
  refine ⟨_, (@pss_cons _ _ _ _ _ (ps_if (PW.pt (pw_or (pt_not (pt_val (pe_callB call_isinst rfl B.isinstance boot_isinstance (pa_cons (pv 0) (pa_cons (pe_bltn (v := .ty "tuple") rfl B.tuple boot_tuple rfl) pa_nil))))) (pw_or1 (pt_cmpR op_ne (pe_callB call_len_seq rfl B.len PySem.boot_len (pa_cons (pv 0) pa_nil)) pe_int (nomark _)))))
      (@pss_one _ _ _ (ps_ret pe_bl))
      pss_nil)
    (@pss_cons _ _ _ _ _ (ps_if (PW.pt (pw_or (pt_not (pt_val (pe_cal c_is_whole hr rfl (pa_cons (pe_ix ix_tup (pv 0) pe_int (fun _ _ => rfl)) pa_nil)))) (pw_or (pt_cmpR op_lt (pe_ix ix_tup (pv 0) pe_int (fun _ _ => rfl)) pe_int (nomark _)) (pw_or1 (pt_cmpR op_gt (pe_ix ix_tup (pv 0) pe_int (fun _ _ => rfl)) pe_int (nomark _))))))
      (@pss_one _ _ _ (ps_ret pe_bl))
      pss_nil)
    (@pss_one _ _ _ (ps_ret (pe_and (pe_cal c_is_word hr rfl (pa_cons (pe_ix ix_tup (pv 0) pe_int (fun _ _ => rfl)) (pa_cons (pv 1) pa_nil))) (pe_one (pe_cal c_is_word hr rfl (pa_cons (pe_ix ix_tup (pv 0) pe_int (fun _ _ => rfl)) (pa_cons (pv 1) pa_nil))))))))), ?_⟩
  try dsimp only [cxK]
  refine ⟨_, rfl, _, _, _, true, rfl, TyOf.tup hp, kit_tt K, _, rfl, iteF ⟨_, rfl, p, _, rfl, .inr SP, rfl, _, rfl, neI (fun z => absurd rfl z) (fun _ => ?_)⟩⟩
  refine ⟨_, rfl, p, _, _, _, rfl, rfl, SP, rfl, _, rfl, _, rfl, iteF ⟨_, rfl, p, _, _, _, rfl, rfl, SP, rfl, _, _, rfl, rfl, _, rfl, decI (fun z => absurd z (by omega)) (fun _ => ⟨_, rfl, p, _, _, _, rfl, rfl, SP, rfl, _, _, rfl, rfl, _, rfl, decI (fun z => absurd z (by omega)) (fun _ => ?_)⟩)⟩⟩
  exact ⟨_, rfl, p, _, _, _, rfl, rfl, SP, rfl, _, rfl, m.2.1, N, rfl, ok.f, _, rfl, iteT ⟨_, rfl, p, _, _, _, rfl, rfl, SP, rfl, _, rfl, m.2.2, N, rfl, ok.s, q⟩⟩
theorem sc_iseven : FnScope ["mark"] ["mark"] (defScope (top 9)) := ⟨rfl, rfl, rfl, by decide +kernel, rfl, by decide +kernel, by decide +kernel⟩
theorem ok_iseven (F : FunAt K "is_even" (top 9) .none) (X : K.In h) (G : h.Ns mainGlobals mg) (c_ones : Cal P w K mg base k "ones" ["number"] spOnes) : Cal P w K mg base (k + 1) "is_even" ["mark"] (spEven K) := by
  have nd := sc_iseven.nd
  refine F.cal X G sc_iseven (bnd1 fun _ _ _ _ _ _ _ => rfl) (fun vs H Q E' h => ?_) (fun f cdv A outer s H vs Q E' hr h => ?_)
  · obtain ⟨p, m, rfl, _⟩ := h; rfl
  obtain ⟨p, m, rfl, SP, e, q⟩ := h
  refine ⟨_, (@pss_one _ _ _ (ps_ret (pe_cmpR op_eq (pe_op op_mod (pe_op op_add (pe_ix ix_tup (pv 0) pe_int (fun _ _ => rfl)) (pe_cal c_ones hr rfl (pa_cons (pe_op op_and (pe_ix ix_tup (pv 0) pe_int (fun _ _ => rfl)) (pe_ix ix_tup (pv 0) pe_int (fun _ _ => rfl))) pa_nil))) pe_int) pe_int (nomark _)))), ?_⟩
  try dsimp only [cxK]
  refine ⟨_, rfl, p, _, _, _, rfl, rfl, SP, rfl, _, rfl, p, _, _, _, rfl, rfl, SP, rfl, _, rfl, p, _, _, _, rfl, rfl, SP, rfl, _, _, rfl, rfl, m.2.1 &&& m.2.2, and_v _ _, _, _, rfl, rfl, _, _, rfl, rfl, two_pos, rfl, ?_⟩
  show Q (.bl (decide (V.int (((m.1 : Int) + ((pc (m.2.1 &&& m.2.2) : Nat) : Int)) % 2) = V.int 0))) H
  unfold ev at e
  rw [decide_eq_true (by congr 1; omega)]
  exact q
theorem sc_isevm : FnScope ["thing", "cells"] ["thing", "cells"] (defScope (top 10)) := ⟨rfl, rfl, rfl, by decide +kernel, rfl, by decide +kernel, by decide +kernel⟩
theorem ok_isevm (F : FunAt K "is_even_mark" (top 10) .none) (X : K.In h) (G : h.Ns mainGlobals mg) (c_is_mark : Cal P w K mg base k "is_mark" ["thing", "cells"] spMark) (c_is_even : Cal P w K mg base k "is_even" ["mark"] (spEven K)) : Cal P w K mg base (k + 1) "is_even_mark" ["thing", "cells"] spEvM := by
  have nd := sc_isevm.nd
  refine F.cal X G sc_isevm (bnd2 fun _ _ _ _ _ _ _ _ => rfl) (fun vs H Q E' h => ?_) (fun f cdv A outer s H vs Q E' hr h => ?_)
  · obtain ⟨p, m, N, rfl, _⟩ := h; rfl
  obtain ⟨p, m, N, rfl, hp, ok, e, q⟩ := h
  refine ⟨_, (@pss_one _ _ _ (ps_ret (pe_and (pe_cal c_is_mark hr rfl (pa_cons (pv 0) (pa_cons (pv 1) pa_nil))) (pe_one (pe_cal c_is_even hr rfl (pa_cons (pv 0) pa_nil)))))), ?_⟩
  try dsimp only [cxK]
  exact ⟨_, rfl, _, rfl, p, m, N, rfl, hp, ok, _, rfl, iteT ⟨_, rfl, p, m, rfl, SqT.of hp, e, q⟩⟩
theorem sc_pcommute : FnScope ["one", "other"] ["one", "other"] (defScope (top 11)) := ⟨rfl, rfl, rfl, by decide +kernel, rfl, by decide +kernel, by decide +kernel⟩
theorem ok_pcommute (F : FunAt K "commute" (top 11) .none) (X : K.In h) (G : h.Ns mainGlobals mg) (c_ones : Cal P w K mg base k "ones" ["number"] spOnes) : Cal P w K mg base (k + 1) "commute" ["one", "other"] (spCommute K) := by
  have nd := sc_pcommute.nd
  refine F.cal X G sc_pcommute (bnd2 fun _ _ _ _ _ _ _ _ => rfl) (fun vs H Q E h => ?_) (fun f cdv A outer s H vs Q E hr h => ?_)
  · obtain ⟨p, p', m, m', rfl, _⟩ := h; rfl
  obtain ⟨p, p', m, m', rfl, S1, S2, q⟩ := h
  refine ⟨_, (@pss_one _ _ _ (ps_ret (pe_cmpR op_eq (pe_op op_mod (pe_op op_add (pe_cal c_ones hr rfl (pa_cons (pe_op op_and (pe_ix ix_tup (pv 0) pe_int (fun _ _ => rfl)) (pe_ix ix_tup (pv 1) pe_int (fun _ _ => rfl))) pa_nil)) (pe_cal c_ones hr rfl (pa_cons (pe_op op_and (pe_ix ix_tup (pv 0) pe_int (fun _ _ => rfl)) (pe_ix ix_tup (pv 1) pe_int (fun _ _ => rfl))) pa_nil))) pe_int) pe_int (nomark _)))), ?_⟩
  try dsimp only [cxK]
  refine ⟨_, rfl, p, _, _, _, rfl, rfl, S1, rfl, _, rfl, p', _, _, _, rfl, rfl, S2, rfl, _, _, rfl, rfl, m.2.1 &&& m'.2.2, and_v _ _, _, rfl, p, _, _, _, rfl, rfl, S1, rfl, _, rfl, p', _, _, _, rfl, rfl, S2, rfl, _, _, rfl, rfl, m.2.2 &&& m'.2.1, and_v _ _, _, _, rfl, rfl, _, _, rfl, rfl, two_pos, rfl, ?_⟩
  have e : decide (V.int ((((pc (m.2.1 &&& m'.2.2) : Nat) : Int) + ((pc (m.2.2 &&& m'.2.1) : Nat) : Int)) % 2) = V.int 0) = decide (comm m m' = 0) := by
    rw [decide_eq_decide]
    unfold comm
    constructor
    · intro z
      have := V.int.inj z
      omega
    · intro z
      congr 1
      omega
  show Q (.bl (decide (V.int ((((pc (m.2.1 &&& m'.2.2) : Nat) : Int) + ((pc (m.2.2 &&& m'.2.1) : Nat) : Int)) % 2) = V.int 0))) H
  rw [e]
  exact q
theorem sc_comall : FnScope ["mark", "rows"] ["mark", "rows"] (defScope (top 22)) := ⟨rfl, rfl, rfl, by decide +kernel, rfl, by decide +kernel, by decide +kernel⟩
theorem ok_comall (F : FunAt K "commutes_with_all" (top 22) .none) (X : K.In h) (G : h.Ns mainGlobals mg) (B : Bs mg) (c_commute : Cal P w K mg base k "commute" ["one", "other"] (spCommute K)) : Cal P w K mg base (k + 1) "commutes_with_all" ["mark", "rows"] (spComAll K) := by
  have nd := sc_comall.nd
  refine F.cal X G sc_comall (bnd2 fun _ _ _ _ _ _ _ _ => rfl) (fun vs H Q E' h => ?_) (fun f cdv A outer s H vs Q E' hr h => ?_)
  · obtain ⟨pm, l, ps, ms, m, rfl, _⟩ := h; rfl
  obtain ⟨pm, l, ps, ms, m, rfl, hpm, hS, hm, l12, com, kq⟩ := h
  have lps : (ps.map V.ref).length = ms.length := by rw [List.length_map, hm.length]
  refine ⟨_, (@pss_one _ _ _ (ps_ret (pe_callB (call_allL rfl) rfl B.all boot_all (pa_cons (pe_lc rfl (LcOk.of (Nc := ["row", "mark"]) (mp := [none, some 0]) (by kernel_rfl)) (pi_list (pv 1)) (fun _ _ _ _ => (pg_name (i := 0) (show (["row", "mark"] : List Str).Nodup by decide +kernel) rfl (Or.inl rfl))) (fun _ _ _ _ => (pe_cal c_commute hr rfl (pa_cons (pv 1) (pa_cons (pv 0) pa_nil))))) pa_nil)))), ?_⟩
  try dsimp only [cxK]
  refine ⟨_, rfl, l, rfl, ⟨_, hS⟩, fun acc hacc => ?_⟩
  refine lc_list (K := K) (a := l) (xs := ps.map V.ref) (fr := [some (.ref pm)]) (fun i ys H' => Same H H' ∧ H' acc = some (.lst ys) ∧ ys = (List.replicate i true).map V.bl) (by rw [lps]; exact s64 (by omega)) ⟨same_new hacc _, upd_same, rfl⟩ (fun i ys H' e => e.1.seq hS) ?_ ?_
  · rintro i x ys HA NN hx hl ⟨SA, cA, rfl⟩ kN
    rw [List.getElem?_map] at hx
    obtain ⟨p, hp, rfl⟩ := Option.map_eq_some_iff.mp hx
    obtain ⟨r, hri, p0⟩ := hm.get hp
    refine ⟨_, rfl, _, rfl, pm, p, m, r, rfl, SqT.of (SA _ _ hpm), SqT.of (SA _ _ p0), ?_⟩
    rw [decide_eq_true (com r (List.mem_of_getElem? hri))]
    refine kN _ _ cA ⟨same_upd SA hacc, upd_same, ?_⟩
    rw [List.replicate_succ', List.map_append]
    rfl
  rintro ys HB hlB ⟨SB', cB, rfl⟩
  refine ⟨acc, _, rfl, SqL.of cB, ?_⟩
  rw [all_true]
  exact kq HB SB'
end
end K53

set_option maxHeartbeats 4000000
namespace K53
open PySem PySem.Spec PyProof.Rows L2 Pc K51 M54 M57
open M53 (IsLd vec V6 wl vec_bit ev)
theorem sl_listC {X : Cx} {scope : Scope} {Nc : List Str} {ex : List Addr} {pins : List (Addr × Obj)} {s : Shared} {H : Hp} : SlR (cxLc X scope Nc ex pins s H) (rSlL X.K) := sl_list
theorem lc_enumS {K : PySem.W.Frag} {l : Addr} {g : TG} {xs : List V} {te : TE} {fr : L2.St} {H1 : Hp} {acc : Addr} {Q : VK} (f : Nat → V → V) (hn : xs.length ≤ sizeLine) (hacc : H1 acc = none) (hl : SqL K H1 l xs)
    (hg : ∀ {a : Addr} {x y : V} {w1 w2 : Option V} {H : Hp} {Q : L2.St → Hp → Prop}, H a = some (.tup [x, y]) → Q (some x :: some y :: fr) H → g (.ref a) (w1 :: w2 :: fr) H Q)
    (hs : ∀ i x H (N : V → Hp → Prop), xs[i]? = some x → Same H1 H → (∀ H', Same H H' → N (f i x) H') → te (some (.int i) :: some x :: fr) H N)
    (hd : ∀ H2, Same H1 H2 → H2 acc = some (.lst (xs.mapIdx f)) → Q (.ref acc) H2) : LcW (Ite K l) g te (none :: none :: fr) H1 acc Q := by
  refine ⟨fun i m zs σ2 H2 => m = xs.length - i ∧ i ≤ xs.length ∧ (∃ v w, σ2 = v :: w :: fr) ∧ Same H1 H2 ∧ H2 acc = some (.lst zs) ∧ zs = (xs.take i).mapIdx f, ⟨xs.length, by simp, Nat.zero_le _, ⟨_, _, rfl⟩, same_new hacc _, upd_same, by simp⟩, ?_⟩
  rintro i m zs σ2 H2 ⟨rfl, hi, ⟨v, w, rfl⟩, s2, a2, e2⟩
  by_cases hlt : i < xs.length
  · have e1 : xs[i]? = some xs[i] := by simp [hlt]
    refine .inr ⟨⟨xs, _, s2.seq hl, e1⟩, fun u H3 y3 => ?_⟩
    obtain ⟨T, x, rfl, hT, rfl, h1⟩ := y3
    have hx := h1 xs (s2.seq hl)
    have sT := same_new hT (.tup [.int i, x])
    have zl : zs.length = i := by rw [e2, List.length_mapIdx, List.length_take]; omega
    refine hg (x := .int i) (y := x) upd_same (hs i x _ _ hx (s2.trans sT) fun H' s' => ⟨s' _ _ (sT _ _ a2), by omega, xs.length - (i + 1), by omega, rfl, hlt, ⟨_, _, rfl⟩, same_upd ((s2.trans sT).trans s') hacc, upd_same, ?_⟩)
    rw [List.take_add_one, hx, Option.toList_some, List.mapIdx_append, e2]
    have : (xs.take i).length = i := by rw [List.length_take]; omega
    simp [this]
  · have e : i = xs.length := by omega
    subst e
    exact .inl ⟨⟨xs, s2.seq hl, Nat.le_refl _⟩, hd H2 s2 (by rw [a2, e2, List.take_length])⟩
theorem cut_to {xs : List V} {i : Nat} (h : i ≤ xs.length) : cutV xs none (some (i : Int)) = xs.take i := by
  unfold cutV
  have e1 : HT.sIx xs.length 0 none = 0 := rfl
  have e2 : HT.sIx xs.length xs.length (some (i : Int)) = i := by rw [HT.sIx_nat]; exact Nat.min_eq_left h
  rw [e1, e2]
  rfl
theorem Mks.take {H : Hp} : ∀ {ps : List Addr} {ms : List Mk} (i : Nat), Mks H ps ms → Mks H (ps.take i) (ms.take i)
  | [], [], _, .nil => by rw [List.take_nil, List.take_nil]; exact .nil
  | _ :: _, _ :: _, 0, _ => .nil
  | _ :: _, _ :: _, i + 1, .cons a r => .cons a (Mks.take i r)
theorem take_chosen {ms : List Mk} {x i : Nat} (hi : i ≤ ms.length) : chosen (ms.take i) x i = chosen ms x i := by
  unfold chosen
  refine List.map_congr_left fun p hp => ?_
  have := places_lt hp
  rw [List.getD_eq_getElem?_getD, List.getD_eq_getElem?_getD, List.getElem?_take, if_pos this]
theorem not_made {ms : List Mk} (I : Indep ms) {i kk x : Nat} (hi : i < ms.length) (q : (ms.getD i (0, 0, 0)).1 < 4) (k4 : kk < 4) (h : (chosen (ms.take i) x (ms.take i).length).foldl mul (kk, 0, 0) = ms.getD i (0, 0, 0)) : False := by
  have lt : (ms.take i).length = i := by rw [List.length_take]; omega
  rw [lt, take_chosen (by omega), prod_shift k4] at h
  have hx := Nat.mod_lt x (Nat.two_pow_pos i)
  have eE : E ms (x % 2 ^ i) = prod (chosen ms x i) := by
    unfold E
    obtain ⟨d, hd⟩ : ∃ d, ms.length = i + d := ⟨ms.length - i, by omega⟩
    rw [hd, chosen_low ms hx d, chosen_mod]
  have e1 := E_one ms hi q
  have p2 : 2 ^ i < 2 ^ ms.length := Nat.pow_lt_pow_right (by decide) hi
  have := E_inj I (Nat.lt_trans hx p2) p2 (by rw [eE, e1, ← h])
  omega
structure Tb3 (N : Nat) (H : Hp) (l : Addr) (ps : List Addr) (ms : List Mk) : Prop where
  lst : H l = some (.lst (ps.map V.ref))
  mks : Mks H ps ms
  ok : ∀ m ∈ ms, Okm N m
  tb : M53.Tb ms
  len : ms.length ≤ 6
theorem Tb3.same {N : Nat} {H H' : Hp} {l : Addr} {ps : List Addr} {ms : List Mk} (t : Tb3 N H l ps ms) (s : Same H H') : Tb3 N H' l ps ms := ⟨s _ _ t.lst, t.mks.same s, t.ok, t.tb, t.len⟩
def spIsTable : Sp := fun vs H Q _ => ∃ (l : Addr) (ps : List Addr) (ms : List Mk) (N : Nat), vs = [.ref l, .int N] ∧ Tb3 N H l ps ms ∧ 1 ≤ N ∧ N ≤ 6 ∧ ∀ H', Same H H' → Q (.bl true) H'
theorem am : ¬ (V.str "apart" = V.str "made") := fun e => absurd (V.str.inj e) (by decide +kernel)
section
variable {P : Program} {w : World} {K : PySem.W.Frag} {mg : Str → Option Value} {base : Heap} {k : Nat} {h : Heap}
theorem sc_istable : FnScope ["rows", "cells"] ["rows", "cells"] (defScope (top 21)) := ⟨rfl, rfl, rfl, by decide +kernel, rfl, by decide +kernel, by decide +kernel⟩
theorem ok_istable (F : FunAt K "is_table" (top 21) .none) (X : K.In h) (G : h.Ns mainGlobals mg) (B : Bs mg) (c_is_whole : Cal P w K mg base k "is_whole" ["thing"] spWhole) (c_is_even_mark : Cal P w K mg base k "is_even_mark" ["thing", "cells"] spEvM)
    (c_commutes_with_all : Cal P w K mg base k "commutes_with_all" ["mark", "rows"] (spComAll K)) (c_made_of : Cal P w K mg base k "made_of" ["rows", "mark", "cells"] (spMadeOf K)) : Cal P w K mg base (k + 1) "is_table" ["rows", "cells"] spIsTable := by
  have nd := sc_istable.nd
  refine F.cal X G sc_istable (bnd2 fun _ _ _ _ _ _ _ _ => rfl) (fun vs H Q E' h => ?_) (fun f cdv A outer s H vs Q E' hr h => ?_)
  · obtain ⟨l, ps, ms, N, rfl, _⟩ := h; rfl
  obtain ⟨l, ps, ms, N, rfl, T, N1, N6, kq⟩ := h
  have hS : SqL K H l (ps.map V.ref) := SqL.of T.lst
  have lps : (ps.map V.ref).length = ms.length := by rw [List.length_map, T.mks.length]
  have l6 := T.len
  refine ⟨_, (@pss_cons _ _ _ _ _ (ps_if (PW.pt (pw_or (pt_not (pt_val (pe_callB call_isinst rfl B.isinstance boot_isinstance (pa_cons (pv 0) (pa_cons (pe_bltn (v := .ty "list") rfl B.list boot_list rfl) pa_nil))))) (pw_or (pt_not (pt_val (pe_cal c_is_whole hr rfl (pa_cons (pv 1) pa_nil)))) (pw_or1 (pt_cmpR op_lt (pv 1) pe_int (nomark _))))))
      (@pss_one _ _ _ (ps_ret pe_bl))
      pss_nil)
    (@pss_cons _ _ _ _ _ (ps_if (pt_not (pt_val (pe_callB (call_allL rfl) rfl B.all boot_all (pa_cons (pe_lc rfl (LcOk.of (Nc := ["row", "cells"]) (mp := [none, some 1]) (by kernel_rfl)) (pi_list (pv 0)) (fun _ _ _ _ => (pg_name (i := 0) (show (["row", "cells"] : List Str).Nodup by decide +kernel) rfl (Or.inl rfl))) (fun _ _ _ _ => (pe_cal c_is_even_mark hr rfl (pa_cons (pv 0) (pa_cons (pv 1) pa_nil))))) pa_nil))))
      (@pss_one _ _ _ (ps_ret pe_bl))
      pss_nil)
    (@pss_cons _ _ _ _ _ (ps_if (pt_not (pt_val (pe_callB (call_allL rfl) rfl B.all boot_all (pa_cons (pe_lc rfl (LcOk.of (Nc := ["row", "rows"]) (mp := [none, some 0]) (by kernel_rfl)) (pi_list (pv 0)) (fun _ _ _ _ => (pg_name (i := 0) (show (["row", "rows"] : List Str).Nodup by decide +kernel) rfl (Or.inl rfl))) (fun _ _ _ _ => (pe_cal c_commutes_with_all hr rfl (pa_cons (pv 0) (pa_cons (pv 1) pa_nil))))) pa_nil))))
      (@pss_one _ _ _ (ps_ret pe_bl))
      pss_nil)
    (@pss_one _ _ _ (ps_ret (pe_not (pe_callB (call_anyL rfl) rfl B.any boot_any (pa_cons (pe_lc rfl (LcOk.of (Nc := ["place", "row", "rows", "cells"]) (mp := [none, none, some 0, some 1]) (by kernel_rfl)) (pi_enum rfl B.enumerate (pa_cons (pv 0) pa_nil)) (fun _ _ _ _ => (pg_pairC rfl (show (["place", "row", "rows", "cells"] : List Str).Nodup by decide +kernel) rfl rfl rfl rfl)) (fun _ _ _ _ => (pe_cmpR op_eq (pe_ix ix_tupC (pe_cal c_made_of hr rfl (pa_cons (pe_slice sl_listC (pv 2) po_none (po_some (pv 0))) (pa_cons (pv 1) (pa_cons (pv 3) pa_nil)))) pe_int (fun _ _ => rfl)) pe_str (nomark _)))) pa_nil)))))))), ?_⟩
  try dsimp only [cxK]
  refine ⟨_, rfl, _, _, _, true, rfl, TyOf.lst T.lst, kit_ll K, _, rfl, iteF ⟨_, rfl, _, rfl, _, rfl, iteF ⟨_, rfl, _, _, rfl, rfl, _, rfl, decI (fun z => absurd z (by omega)) (fun _ => ?_)⟩⟩⟩
  refine ⟨_, rfl, l, rfl, ⟨_, hS⟩, fun acc hacc => ?_⟩
  refine lc_list (K := K) (a := l) (xs := ps.map V.ref) (fr := [some (.int N)]) (fun i ys H' => Same H H' ∧ H' acc = some (.lst ys) ∧ ys = (List.replicate i true).map V.bl) (by rw [lps]; exact s64 (by omega)) ⟨same_new hacc _, upd_same, rfl⟩ (fun i ys H' e => e.1.seq hS) ?_ ?_
  · rintro i x ys HA NN hx hl ⟨SA, cA, rfl⟩ kN
    rw [List.getElem?_map] at hx
    obtain ⟨p, hp, rfl⟩ := Option.map_eq_some_iff.mp hx
    obtain ⟨r, hri, p0⟩ := T.mks.get hp
    have mem := List.mem_of_getElem? hri
    refine ⟨_, rfl, _, rfl, p, r, N, rfl, SA _ _ p0, T.ok r mem, T.tb.nice.even r mem, ?_⟩
    refine kN _ _ cA ⟨same_upd SA hacc, upd_same, ?_⟩
    rw [List.replicate_succ', List.map_append]
    rfl
  rintro ys H1 hl1 ⟨S1, c1, rfl⟩
  refine ⟨acc, _, rfl, SqL.of c1, _, rfl, nblI (fun z => absurd z (by rw [all_true]; decide)) (fun _ => ?_)⟩
  refine ⟨_, rfl, l, rfl, ⟨_, S1.seq hS⟩, fun acc2 hacc2 => ?_⟩
  refine lc_list (K := K) (a := l) (xs := ps.map V.ref) (fr := [some (.ref l)]) (fun i ys H' => Same H1 H' ∧ H' acc2 = some (.lst ys) ∧ ys = (List.replicate i true).map V.bl) (by rw [lps]; exact s64 (by omega)) ⟨same_new hacc2 _, upd_same, rfl⟩ (fun i ys H' e => (S1.trans e.1).seq hS) ?_ ?_
  · rintro i x ys HA NN hx hl ⟨SA, cA, rfl⟩ kN
    rw [List.getElem?_map] at hx
    obtain ⟨p, hp, rfl⟩ := Option.map_eq_some_iff.mp hx
    obtain ⟨r, hri, p0⟩ := T.mks.get hp
    have mem := List.mem_of_getElem? hri
    have SS := S1.trans SA
    refine ⟨_, rfl, _, rfl, p, l, ps, ms, r, rfl, SS _ _ p0, SS.seq hS, T.mks.same SS, by omega, T.tb.nice.com r mem, fun HB SB => ?_⟩
    refine kN _ _ (SB _ _ cA) ⟨same_upd (SA.trans SB) hacc2, upd_same, ?_⟩
    rw [List.replicate_succ', List.map_append]
    rfl
  rintro ys H2 hl2 ⟨S2, c2, rfl⟩
  have S02 := S1.trans S2
  refine ⟨acc2, _, rfl, SqL.of c2, _, rfl, nblI (fun z => absurd z (by rw [all_true]; decide)) (fun _ => ?_)⟩
  refine ⟨_, rfl, l, _, rfl, S02.seq hS, fun acc3 hacc3 => ?_⟩
  refine lc_enumS (l := l) (xs := ps.map V.ref) (fr := [some (.ref l), some (.int N)]) (fun _ _ => .bl false) (by rw [lps]; exact s64 (by omega)) hacc3 (S02.seq hS) (fun h q => ⟨_, _, rfl, SqT.of h, rfl, _, _, rfl, _, _, rfl, rfl, q⟩) ?_ ?_
  · intro i x H3 NN hx S3 kN
    have ilt : i < (ps.map V.ref).length := (List.getElem?_eq_some_iff.mp hx).1
    rw [List.getElem?_map] at hx
    obtain ⟨p, hp, rfl⟩ := Option.map_eq_some_iff.mp hx
    obtain ⟨r, hri, p0⟩ := T.mks.get hp
    have mem := List.mem_of_getElem? hri
    have eg : ms.getD i (0, 0, 0) = r := by rw [List.getD_eq_getElem?_getD, hri]; rfl
    have SS := S02.trans S3
    refine ⟨_, rfl, _, rfl, _, rfl, l, _, rfl, SS.seq hS, fun cp hcp => ?_⟩
    rw [cut_to (by omega), ← List.map_take]
    have s4 := same_new hcp (.lst ((ps.take i).map V.ref))
    refine ⟨_, rfl, _, rfl, cp, p, ps.take i, ms.take i, r, N, rfl, SqL.of upd_same, ((T.mks.same SS).same s4).take i, s4 _ _ (SS _ _ p0), N6, by rw [List.length_take]; omega, fun m hm => T.ok m (List.mem_of_mem_take hm), T.ok r mem, fun rt H5 S5 told => ?_⟩
    rcases told with ⟨k1, y, ln, _, hrt, _, k4, hf⟩ | ⟨pp, o, hrt, _⟩
    · rw [← eg] at hf
      exact (not_made T.tb.ind (by omega) (by rw [eg]; exact T.tb.nice.q r mem) k4 hf).elim
    · refine ⟨rt, _, _, _, rfl, rfl, SqT.of hrt, rfl, rfl, ?_⟩
      rw [decide_eq_false am]
      exact kN H5 (s4.trans S5)
  · intro H3 S3 a3
    have e : ((ps.map V.ref).mapIdx fun _ _ => V.bl false) = (List.replicate (ps.map V.ref).length false).map V.bl := by
      apply List.ext_getElem
      · simp
      · intro i h1 h2; simp
    rw [e] at a3
    refine ⟨acc3, _, rfl, SqL.of a3, _, rfl, ?_⟩
    rw [show (List.replicate (ps.map V.ref).length false).any id = false by simp]
    exact kq H3 (S02.trans S3)
end
end K53

set_option maxHeartbeats 4000000
/-! slices of lists with a step -/
namespace L2
open PySem PySem.Spec PyProof.Rows
section
variable {X : Cx} {e st : Expr} {lo hi : Option Expr} {te : TE} {tl th ts : TO} {p2 pos : Pos}
def SlR3 (X : Cx) (r : V → Option Int → Option Int → Option Int → Hp → VK → Prop) : Prop :=
  ∀ (pins : List (Addr × Obj)) (s : Shared) (σ : St) (H : Hp) (x : V) (v vl vu vs : Value) (lo hi st : Option Int) (sl : Addr) (Q : VK), Inv X pins σ H s → RelV x v → s.heap.IsSliceOf sl vl vu vs → IsPart vl lo → IsPart vu hi → IsPart vs st → r x lo hi st H Q →
    ∃ T id, typeLookup (.type T) "__getitem__" = pure (some (.builtin id)) ∧ s.TypeIs v T ∧ wpAny (model X.prog X.w) X.A (getItem v (.ref sl)) (EP X pins σ Q) X.xe s
def tSl3 (r : V → Option Int → Option Int → Option Int → Hp → VK → Prop) (te : TE) (tl th ts : TO) : TE := fun σ H Q => te σ H fun x H1 => tl σ H1 fun l H2 => th σ H2 fun u H3 => ts σ H3 fun t H4 => r x l u t H4 Q
theorem pe_slice3 {r : V → Option Int → Option Int → Option Int → Hp → VK → Prop} (hr : SlR3 X r) (he : PE X e te) (hl : PO X lo tl) (hu : PO X hi th) (ht : PO X (some st) ts) {ops : Value → Value → List Value} (hsub : ∀ v u, subscripted (.Slice lo hi (some st) p2) false v u = operate (ops v u) (getItem v u)) : PE X (.Subscript e (.Slice lo hi (some st) p2) pos) (tSl3 r te tl th ts) := by
  intro pins s σ H Q I h
  refine Subscript_ (thn (he pins s σ H _ I h) fun v s1 ⟨x, H1, I1, r1, q1⟩ => ?_)
  refine wpAny_Slice (thn (hl pins s1 σ H1 _ I1 q1) fun vl s2 ⟨l, H2, I2, pl, q2⟩ => thn (hu pins s2 σ H2 _ I2 q2) fun vu s3 ⟨u, H3, I3, pu, q3⟩ => thn (ht pins s3 σ H3 _ I3 q3) fun vs s4 ⟨t, H4, I4, ps, q4⟩ => ?_)
  have I5 : Inv X pins σ H4 { s4 with heap := s4.heap.push { cls := .type "slice", data := .fields #[vl, vu, vs] } } := I4.kept (t' := s4.toks) fun b ob q => Heap.get?_push_of_some _ q
  obtain ⟨T, id, hT, ht', hg⟩ := hr pins { s4 with heap := s4.heap.push { cls := .type "slice", data := .fields #[vl, vu, vs] } } σ H4 x v vl vu vs l u t s4.heap.objs.size Q I5 r1 (Heap.IsSliceOf.new ..) pl pu ps q4
  show wpAny (model X.prog X.w) X.A (subscriptTail e (.Slice lo hi (some st) p2) v (.ref s4.heap.objs.size)) (EP X pins σ Q) X.xe { s4 with heap := s4.heap.push { cls := .type "slice", data := .fields #[vl, vu, vs] } }
  exact tail_any (ops := ops v (.ref s4.heap.objs.size)) ht' hT hg (hsub _ _)
theorem Vals.rev {xs : List V} {us : List Value} (h : Vals xs us) : Vals xs.reverse us.reverse := by
  induction h with
  | nil => exact .nil
  | cons a _ ih => rw [List.reverse_cons, List.reverse_cons]; exact Paired.snoc ih a
theorem sl3_rev : SlR3 X (fun x lo hi st H Q => ∃ (a : Addr) (xs : List V), x = .ref a ∧ SqL X.K H a xs ∧ lo = none ∧ hi = none ∧ st = some (-1) ∧ ∀ (p : Addr), H p = none → Q (.ref p) (upd H p (.lst xs.reverse))) := by
  intro pins s σ H x v vl vu vs lo hi st sl Q I rx hs pl pu ps h
  obtain ⟨a, xs, rfl, hx, rfl, rfl, rfl, q⟩ := h
  cases rx
  obtain ⟨its, r, ht, hz⟩ := I.list hx
  have hlen := r.length
  refine ⟨"list", _, slot_list_getitem.lookup, ht.isList.typeIs, wpAny_getItem_list_slice ht.isList hs pl pu ps (by decide) ?_ (by rw [List.size_toArray]; omega)⟩
  refine ⟨.ref s.heap.objs.size, _, I.laid (t' := s.toks) (o := .lst xs.reverse) (fun b ob q => Heap.get?_push_of_some _ q) (Nat.le_refl _) ⟨by rw [List.length_reverse]; exact hz, _, 0, r.rev, ?_⟩, rfl, q _ (I.hok.fresh (Nat.le_refl _))⟩
  rw [PySem.W.krv_pick]
  exact Heap.get?_push_size _ rfl
end
end L2

set_option maxHeartbeats 4000000
namespace HT
open PySem PySem.Spec PyProof.Rows
section
variable {prog : Program} {w : World} {A : Around} {E : Value → Shared → Prop} {s : Shared}
end
end HT
namespace L2
open PySem PySem.Spec PyProof.Rows
section
variable {X : Cx}
end
end L2

set_option maxHeartbeats 4000000
namespace K53
open PySem PySem.Spec PyProof.Rows L2 Pc K51 M54 M57
open M53 (IsLd vec V6 wl vec_bit ev Alike)
def spOther : Sp := fun vs H Q _ => ∃ (l : Addr) (ps : List Addr) (ms : List Mk) (N far : Nat), vs = [.ref l, .int far] ∧ Tb3 N H l ps ms ∧
  ∀ (r : Addr) (H' : Hp) (qs : List Addr) (rs : List Mk), Same H H' → Tb3 N H' r qs rs → Alike ms rs → rs.length = ms.length → Q (.ref r) H'
theorem Mks.upd {H : Hp} {l : Addr} {xs ys : List V} {ps : List Addr} {ms : List Mk} (h : Mks H ps ms) (hl : H l = some (.lst xs)) : Mks (upd H l (.lst ys)) ps ms :=
  Paired.imp' (fun _ _ c => by rw [upd_ne (ne_of c hl (by intro z; cases z))]; exact c) h
theorem Mks.set {H : Hp} : ∀ {ps : List Addr} {ms : List Mk} {p : Addr} {m : Mk} (i : Nat), Mks H ps ms → H p = some (T3 m) → Mks H (ps.set i p) (ms.set i m)
  | [], [], _, _, _, .nil, _ => .nil
  | _ :: _, _ :: _, _, _, 0, .cons a r, h => .cons h r
  | _ :: _, _ :: _, _, _, i + 1, .cons a r, h => .cons a (Mks.set i r h)
theorem Mks.rev {H : Hp} : ∀ {ps : List Addr} {ms : List Mk}, Mks H ps ms → Mks H ps.reverse ms.reverse
  | [], [], .nil => .nil
  | _ :: _, _ :: _, .cons a r => by
    rw [List.reverse_cons, List.reverse_cons]
    exact Paired.snoc (Mks.rev r) a
theorem ixN_nat {n i : Nat} (h : i < n) : ixN n (i : Int) = some i := by
  unfold ixN
  rw [if_pos (by omega), if_pos (by omega), Int.toNat_natCast]
theorem okm_mul {N : Nat} {a b : Mk} (ha : Okm N a) (hb : Okm N b) : Okm N (mul a b) := ⟨Nat.mod_lt _ (by decide), Nat.xor_lt_two_pow ha.f hb.f, Nat.xor_lt_two_pow ha.s hb.s⟩
theorem three_pos : (0 : Int) < 3 := by decide
section
variable {P : Program} {w : World} {K : PySem.W.Frag} {mg : Str → Option Value} {base : Heap} {k : Nat} {h : Heap}
theorem sc_other : FnScope ["_law_rows", "_law_far", "_law_found", "_law_k", "_law_step", "_law_to", "_law_other_here"] ["_law_rows", "_law_far"] (defScope (top 42)) := ⟨rfl, rfl, rfl, by decide +kernel, rfl, by decide +kernel, by decide +kernel⟩
theorem ok_other (F : FunAt K "_law_other" (top 42) .none) (X : K.In h) (G : h.Ns mainGlobals mg) (B : Bs mg) (c__law_product : Cal P w K mg base k "_law_product" ["_law_one", "_law_other_here"] (spProduct K)) : Cal P w K mg base (k + 1) "_law_other" ["_law_rows", "_law_far"] spOther := by
  have nd := sc_other.nd
  refine F.cal X G sc_other (bnd2 fun _ _ _ _ _ _ _ _ => rfl) (fun vs H Q E' h => ?_) (fun f cdv A outer s H vs Q E' hr h => ?_)
  · obtain ⟨l, ps, ms, N, far, rfl, _⟩ := h; rfl
  obtain ⟨l, ps, ms, N, far, rfl, T0, kq⟩ := h
  have lm : (ps.map V.ref).length = ms.length := by rw [List.length_map, T0.mks.length]
  have l6 := T0.len
  have l0 : SqL K H l (ps.map V.ref) := SqL.of T0.lst
  refine ⟨_, (@pss_cons _ _ _ _ _ (@ps_set _ _ 2 _ _ _ _ nd rfl (Or.inl rfl) (pe_callTy call_list_of rfl B.list boot_list (pa_cons (pv 0) pa_nil)) rfl (.inl rfl))
    (@pss_cons _ _ _ _ _ (ps_for PassesOwn.never rfl (pi_range1 rfl B.range (pa_cons (pe_op op_mul pe_int (pe_callB call_len_seq rfl B.len PySem.boot_len (pa_cons (pv 0) pa_nil))) pa_nil)) (pg_name (i := 3) nd rfl (Or.inl rfl))
      (@pss_cut _ _ _ _ _ (@ps_set _ _ 4 _ _ _ _ nd rfl (Or.inl rfl) (pe_op op_add pe_int (pe_op op_mod (pe_op op_fdiv (pv 1) pe_int) (pe_callB (call_max2 rfl) rfl B.max boot_max (pa_cons pe_int (pa_cons (pe_op op_sub (pe_callB call_len_seq rfl B.len PySem.boot_len (pa_cons (pv 0) pa_nil)) pe_int) pa_nil))))) rfl (.inl rfl))
      (@pss_cut _ _ _ _ _ (@ps_set _ _ 5 _ _ _ _ nd rfl (Or.inl rfl) (pe_op op_mod (pv 3) (pe_callB call_len_seq rfl B.len PySem.boot_len (pa_cons (pv 0) pa_nil))) rfl (.inl rfl))
      (@pss_cut _ _ _ _ _ (@ps_set _ _ 6 _ _ _ _ nd rfl (Or.inl rfl) (pe_op op_mod (pe_op op_add (pv 5) (pv 4)) (pe_callB call_len_seq rfl B.len PySem.boot_len (pa_cons (pv 0) pa_nil))) rfl (.inl rfl))
      (@pss_one _ _ _ (ps_if (PW.pt (pw_and (pt_cmpR op_ne (pv 6) (pv 5) (nomark _)) (pw_and1 (pt_cmpR op_ne (pe_op op_mod (pe_op op_add (pv 1) (pv 3)) pe_int) pe_int (nomark _)))))
        (@pss_one _ _ _ (ps_asg (pe_cal c__law_product hr rfl (pa_cons (pe_ix ix_list (pv 2) (pv 5) (fun _ _ => rfl)) (pa_cons (pe_ix ix_list (pv 2) (pv 6) (fun _ _ => rfl)) pa_nil))) (pg_sub (pv 2) (pv 5) set_list)))
        pss_nil))))))
    (@pss_one _ _ _ (ps_ret (pe_slice3 sl3_rev (pv 2) po_none po_none (po_some (pe_un un_neg pe_int)) (fun _ _ => rfl)))))), ?_⟩
  try dsimp only [cxK]
  refine ⟨_, rfl, l, _, rfl, .inl l0, fun lr hlr => ?_⟩
  have s0 := same_new hlr (.lst (ps.map V.ref))
  have T1 : Tb3 N (upd H lr (.lst (ps.map V.ref))) lr ps ms := ⟨upd_same, T0.mks.same s0, T0.ok, T0.tb, T0.len⟩
  have pick : ∀ {H' : Hp} {qs : List Addr} {rs : List Mk} {t : Nat}, Tb3 N H' lr qs rs → t < rs.length → ∃ p, atI (qs.map V.ref) (t : Int) = some (V.ref p) ∧ H' p = some (T3 (rs.getD t (0, 0, 0))) := fun {H' qs rs t} T ht => by
    obtain ⟨p, e1, e2⟩ := T.mks.at (i := t) ht
    exact ⟨p, atI_nat (by rw [List.getElem?_map, e1]; rfl), e2⟩
  refine ⟨_, rfl, l, _, rfl, .inl (s0.seq l0), _, _, rfl, rfl, .inl ⟨by decide, by decide⟩, _, rfl, by omega, by omega, for_range (fun i σ H' => Same H H' ∧ ∃ (qs : List Addr) (rs : List Mk) (v3 v4 v5 v6 : Option V), Tb3 N H' lr qs rs ∧ Alike ms rs ∧ rs.length = ms.length ∧ σ = [some (.ref l), some (.int far), some (.ref lr), v3, v4, v5, v6])
    ⟨s0, ps, ms, none, none, none, none, T1, Alike.refl T0.tb, rfl, rfl⟩ ?_ ?_⟩
  · rintro i σ H1 hi ⟨S1, qs, rs, v3, v4, v5, v6, T, AL, lenr, rfl⟩
    have l1 := S1.seq l0
    have Np : (0 : Int) < ((ps.map V.ref).length : Int) := by
      have : i < (2 * ((ps.map V.ref).length : Int)).toNat := hi
      omega
    refine ⟨fun σ H' => H' = H1 ∧ ∃ st : Nat, σ = [some (.ref l), some (.int far), some (.ref lr), some (.int (0 + (i : Int))), some (.int st), v5, v6], ?_, ?_⟩
    · have mp : (0 : Int) < (if ((ps.map V.ref).length : Int) - 1 > 1 then ((ps.map V.ref).length : Int) - 1 else 1) := by split <;> omega
      refine ⟨_, rfl, _, _, rfl, rfl, ⟨by decide, by decide⟩, _, rfl, l, _, rfl, .inl l1, _, _, rfl, rfl, _, _, rfl, _, _, rfl, rfl, mp, _, _, rfl, rfl, rfl, ?_⟩
      obtain ⟨st, hst⟩ := nat_of (Int.emod_nonneg ((far : Int) / 7) (Int.ne_of_gt mp))
      refine ⟨1 + st, ?_⟩
      rw [Int.natCast_add, ← hst]
      rfl
    rintro σ2 H2 ⟨rfl, st, rfl⟩
    refine ⟨fun σ H' => H' = H2 ∧ ∃ t : Nat, t < ms.length ∧ σ = [some (.ref l), some (.int far), some (.ref lr), some (.int (0 + (i : Int))), some (.int st), some (.int t), v6], ?_, ?_⟩
    · refine ⟨_, rfl, _, rfl, l, _, rfl, .inl l1, _, _, rfl, rfl, Np, rfl, ?_⟩
      obtain ⟨t, ht⟩ := nat_of (Int.emod_nonneg (0 + (i : Int)) (Int.ne_of_gt Np))
      have := Int.emod_lt_of_pos (0 + (i : Int)) Np
      refine ⟨t, by omega, ?_⟩
      rw [← ht]
      rfl
    rintro σ3 H3 ⟨rfl, t, ht, rfl⟩
    refine ⟨fun σ H' => H' = H3 ∧ ∃ o : Nat, o < ms.length ∧ σ = [some (.ref l), some (.int far), some (.ref lr), some (.int (0 + (i : Int))), some (.int st), some (.int t), some (.int o)], ?_, ?_⟩
    · refine ⟨_, rfl, _, rfl, _, _, rfl, rfl, _, rfl, l, _, rfl, .inl l1, _, _, rfl, rfl, Np, rfl, ?_⟩
      obtain ⟨o, ho⟩ := nat_of (Int.emod_nonneg ((t : Int) + st) (Int.ne_of_gt Np))
      have := Int.emod_lt_of_pos ((t : Int) + st) Np
      refine ⟨o, by omega, ?_⟩
      rw [← ho]
      rfl
    rintro σ4 H4 ⟨rfl, o, ho, rfl⟩
    refine ⟨_, rfl, _, rfl, rfl, _, rfl, neI (fun ne => ⟨_, rfl, _, rfl, _, _, rfl, rfl, _, _, rfl, rfl, three_pos, rfl, _, rfl, neI (fun _ => ?_) (fun _ => ⟨S1, qs, rs, _, _, _, _, T, AL, lenr, rfl⟩)⟩) (fun _ => ⟨S1, qs, rs, _, _, _, _, T, AL, lenr, rfl⟩)⟩
    obtain ⟨p1, a1, e1⟩ := pick T (t := t) (by omega)
    obtain ⟨p2, a2, e2⟩ := pick T (t := o) (by omega)
    refine ⟨_, rfl, _, rfl, lr, _, _, _, rfl, rfl, SqL.of T.lst, a1, _, rfl, _, rfl, lr, _, _, _, rfl, rfl, SqL.of T.lst, a2, p1, p2, _, _, rfl, SqT.of e1, SqT.of e2, fun r H5 S5 hr => ?_⟩
    have T5 := T.same S5
    have nto : t ≠ o := fun z => by subst z; exact ne rfl
    have AR := Alike.row T.tb (t := t) (o := o) (by omega) (by omega) nto
    refine ⟨_, rfl, _, rfl, lr, _, _, t, rfl, rfl, T5.lst, (by rw [List.length_map, T5.mks.length]; exact ixN_nat (by omega)), same_upd (S1.trans S5) hlr, qs.set t r, rs.set t (mul (rs.getD t (0, 0, 0)) (rs.getD o (0, 0, 0))), _, _, _, _, ⟨?_, (T5.mks.set t hr).upd T5.lst, fun z hz => ?_, AR.t, by rw [List.length_set]; exact T.len⟩, AL.trans T0.tb AR, by rw [List.length_set]; exact lenr, rfl⟩
    · rw [upd_same, List.map_set]
    · rcases List.mem_or_eq_of_mem_set hz with q | q
      · exact T.ok z q
      · rw [q]; exact okm_mul (T.ok _ (M53.gmem (by omega))) (T.ok _ (M53.gmem (by omega)))
  rintro σ3 H3 ⟨S3, qs3, rs3, v3, v4, v5, v6, T3', AL, lenr, rfl⟩
  refine ⟨_, rfl, _, rfl, _, rfl, lr, _, rfl, SqL.of T3'.lst, rfl, rfl, rfl, fun p hp => ?_⟩
  have S4 := same_new hp (.lst (qs3.map V.ref).reverse)
  have AR := Alike.rev T3'.tb
  refine kq p _ qs3.reverse rs3.reverse (S3.trans S4) ⟨?_, (T3'.mks.same S4).rev, fun m hm => T3'.ok m (List.mem_reverse.mp hm), AR.t, by rw [List.length_reverse]; exact T3'.len⟩ (AL.trans T0.tb AR) (by rw [List.length_reverse]; exact lenr)
  rw [upd_same, List.map_reverse]
end
end K53

set_option maxHeartbeats 4000000
namespace K53
open PySem PySem.Spec PyProof.Rows L2 Pc K51 M54 M57
open M53 (IsLd vec V6 wl vec_bit ev Alike)
theorem sz7 {n : Nat} (h : n ≤ 6) : Sz 9000 ((1 : Int) * 2 ^ ((n : Int)).toNat) := by
  rw [ipow]
  have : 2 ^ n ≤ 64 := Nat.le_trans (Nat.pow_le_pow_right (by decide) h) (by decide)
  exact (show Sz 7 ((2 ^ n : Nat) : Int) by unfold Sz; rw [Int.natAbs_natCast]; omega).mono (by decide)
theorem pp (n : Nat) : (0 : Int) < 1 * 2 ^ ((n : Int)).toNat := by rw [Int.one_mul]; exact Int.pow_pos (by decide)
theorem bit_i (x n : Nat) : (Int.fdiv (x : Int) (1 * 2 ^ ((n : Int)).toNat)) % 2 = ((bit x n : Nat) : Int) := by
  rw [Int.fdiv_eq_ediv_of_nonneg _ (Int.le_of_lt (pp n)), ipow]
  unfold bit
  rfl
section
variable {P : Program} {w : World} {K : PySem.W.Frag} {mg : Str → Option Value} {base : Heap} {k : Nat} {h : Heap}
theorem sc_llead : FnScope ["_law_mark", "_law_cell"] ["_law_mark"] (defScope (top 43)) := ⟨rfl, rfl, rfl, by decide +kernel, rfl, by decide +kernel, by decide +kernel⟩
theorem ok_llead (F : FunAt K "_law_lead" (top 43) .none) (X : K.In h) (G : h.Ns mainGlobals mg) (B : Bs mg) : Cal P w K mg base (k + 1) "_law_lead" ["_law_mark"] (spLead K) := by
  have nd := sc_llead.nd
  refine F.cal X G sc_llead (bnd1 fun _ _ _ _ _ _ _ => rfl) (fun vs H Q E' h => ?_) (fun f cdv A outer s H vs Q E' hr h => ?_)
  · obtain ⟨p, m, n, rfl, _⟩ := h; rfl
  obtain ⟨p, m, n, rfl, S, v6, l, q⟩ := h
  have vb : ∀ j, bit (vec m) j = if j < 6 then bit m.2.1 j else bit m.2.2 (j - 6) := fun j => vec_bit v6.f j
  refine ⟨_, (@pss_cons _ _ _ _ _ (ps_for PassesOwn.never rfl (pi_range1 rfl B.range (pa_cons pe_int pa_nil)) (pg_name (i := 1) nd rfl (Or.inl rfl))
      (@pss_one _ _ _ (ps_if (pt_cmpR op_eq (pe_op op_mod (pe_op op_fdivS (pe_ix ix_tup (pv 0) pe_int (fun _ _ => rfl)) (pe_op op_shlS pe_int (pv 1))) pe_int) pe_int (nomark _))
        (@pss_one _ _ _ (ps_ret (pv 1)))
        pss_nil)))
    (@pss_cons _ _ _ _ _ (ps_for PassesOwn.never rfl (pi_range1 rfl B.range (pa_cons pe_int pa_nil)) (pg_name (i := 1) nd rfl (Or.inl rfl))
      (@pss_one _ _ _ (ps_if (pt_cmpR op_eq (pe_op op_mod (pe_op op_fdivS (pe_ix ix_tup (pv 0) pe_int (fun _ _ => rfl)) (pe_op op_shlS pe_int (pv 1))) pe_int) pe_int (nomark _))
        (@pss_one _ _ _ (ps_ret (pe_op op_add pe_int (pv 1))))
        pss_nil)))
    (@pss_one _ _ _ (ps_ret (pe_un un_neg pe_int))))), ?_⟩
  try dsimp only [cxK]
  refine ⟨_, rfl, by decide, by decide, for_range (n := 6) (fun i σ H' => H' = H ∧ (∀ j, j < i → bit m.2.1 j = 0) ∧ ∃ v, σ = [some (.ref p), v]) ⟨rfl, fun j hj => absurd hj (Nat.not_lt_zero _), none, rfl⟩ ?_ ?_⟩
  · rintro i σ H1 hi ⟨rfl, lo, v, rfl⟩
    have e0 : (0 : Int) + (i : Int) = (i : Int) := Int.zero_add _
    have b2 := bit_lt m.2.1 i
    refine ⟨_, rfl, p, _, _, _, rfl, rfl, S, rfl, _, rfl, _, _, rfl, rfl, ⟨1, sz1, by omega, by omega⟩, _, _, rfl, rfl, ⟨by rw [e0]; exact Int.ne_of_gt (pp i), by rw [e0]; exact sz7 (by omega)⟩, _, _, rfl, rfl, two_pos, rfl, _, rfl, eqI (fun z => ?_) (fun z => ?_)⟩
    · rw [e0, bit_i] at z
      have l2 : IsLd (vec m) i := ⟨by rw [vb, if_pos hi]; omega, fun j hj => by rw [vb, if_pos (by omega)]; exact lo j hj⟩
      refine ⟨_, rfl, ?_⟩
      rw [e0, l2.uniq l]
      exact q
    · rw [e0, bit_i] at z
      refine ⟨rfl, fun j hj => ?_, _, rfl⟩
      by_cases e : j = i
      · subst e; omega
      · exact lo j (by omega)
  rintro σ H1 ⟨rfl, lo, v, rfl⟩
  refine ⟨_, rfl, by decide, by decide, for_range (n := 6) (fun i σ H' => H' = H1 ∧ (∀ j, j < i → bit m.2.2 j = 0) ∧ ∃ v, σ = [some (.ref p), v]) ⟨rfl, fun j hj => absurd hj (Nat.not_lt_zero _), _, rfl⟩ ?_ ?_⟩
  · rintro i σ H2 hi ⟨rfl, lo2, v, rfl⟩
    have e0 : (0 : Int) + (i : Int) = (i : Int) := Int.zero_add _
    have b2 := bit_lt m.2.2 i
    refine ⟨_, rfl, p, _, _, _, rfl, rfl, S, rfl, _, rfl, _, _, rfl, rfl, ⟨1, sz1, by omega, by omega⟩, _, _, rfl, rfl, ⟨by rw [e0]; exact Int.ne_of_gt (pp i), by rw [e0]; exact sz7 (by omega)⟩, _, _, rfl, rfl, two_pos, rfl, _, rfl, eqI (fun z => ?_) (fun z => ?_)⟩
    · rw [e0, bit_i] at z
      have l2 : IsLd (vec m) (6 + i) := ⟨by rw [vb, if_neg (by omega), show 6 + i - 6 = i by omega]; omega, fun j hj => by
        rw [vb]
        split
        · rename_i c; exact lo j c
        · exact lo2 _ (by omega)⟩
      refine ⟨_, rfl, _, _, rfl, rfl, ?_⟩
      have e := l2.uniq l
      show Q (.int (6 + (0 + (i : Int)))) H2
      rw [show (6 + (0 + (i : Int))) = ((6 + i : Nat) : Int) by omega, e]
      exact q
    · rw [e0, bit_i] at z
      refine ⟨rfl, fun j hj => ?_, _, rfl⟩
      by_cases e : j = i
      · subst e; omega
      · exact lo2 j (by omega)
  · rintro σ H2 ⟨rfl, lo2, v, rfl⟩
    exfalso
    have one := l.one
    rw [vb] at one
    split at one
    · rename_i c; rw [lo _ c] at one; cases one
    · rename_i c
      by_cases c2 : n - 6 < 6
      · rw [lo2 _ c2] at one; cases one
      · rw [bit_low v6.s (by omega)] at one; cases one
theorem sc_lhas : FnScope ["_law_mark", "_law_lead_here"] ["_law_mark", "_law_lead_here"] (defScope (top 44)) := ⟨rfl, rfl, rfl, by decide +kernel, rfl, by decide +kernel, by decide +kernel⟩
theorem ok_lhas (F : FunAt K "_law_has" (top 44) .none) (X : K.In h) (G : h.Ns mainGlobals mg) : Cal P w K mg base (k + 1) "_law_has" ["_law_mark", "_law_lead_here"] (fun vs H Q E' => ∃ (p : Addr) (m : Mk) (n : Nat), vs = [.ref p, .int n] ∧ SqT K H p (L3 m) ∧ V6 m ∧ n < 12 ∧ Q (.bl (decide (bit (vec m) n = 1))) H) := by
  have nd := sc_lhas.nd
  refine F.cal X G sc_lhas (bnd2 fun _ _ _ _ _ _ _ _ => rfl) (fun vs H Q E' h => ?_) (fun f cdv A outer s H vs Q E' hr h => ?_)
  · obtain ⟨p, m, n, rfl, _⟩ := h; rfl
  obtain ⟨p, m, n, rfl, S, v6, n12, q⟩ := h
  have one : ∀ (x j : Nat), decide (V.int ((Int.fdiv (x : Int) (1 * 2 ^ ((j : Int)).toNat)) % 2) = V.int 1) = decide (bit x j = 1) := fun x j => by
    rw [bit_i, decide_eq_decide]
    constructor
    · intro z; have := V.int.inj z; omega
    · intro z; congr 1; omega
  refine ⟨_, (@pss_cons _ _ _ _ _ (ps_if (pt_cmpR op_lt (pv 1) pe_int (nomark _))
      (@pss_one _ _ _ (ps_ret (pe_cmpR op_eq (pe_op op_mod (pe_op op_fdivS (pe_ix ix_tup (pv 0) pe_int (fun _ _ => rfl)) (pe_op op_shlS pe_int (pv 1))) pe_int) pe_int (nomark _))))
      pss_nil)
    (@pss_one _ _ _ (ps_ret (pe_cmpR op_eq (pe_op op_mod (pe_op op_fdivS (pe_ix ix_tup (pv 0) pe_int (fun _ _ => rfl)) (pe_op op_shlS pe_int (pe_op op_sub (pv 1) pe_int))) pe_int) pe_int (nomark _))))), ?_⟩
  try dsimp only [cxK]
  refine ⟨_, rfl, _, _, rfl, rfl, _, rfl, decI (fun c => ?_) (fun c => ?_)⟩
  · refine ⟨_, rfl, p, _, _, _, rfl, rfl, S, rfl, _, rfl, _, _, rfl, rfl, ⟨1, sz1, by omega, by omega⟩, _, _, rfl, rfl, ⟨Int.ne_of_gt (pp n), sz7 (by omega)⟩, _, _, rfl, rfl, two_pos, rfl, ?_⟩
    show Q (.bl (decide (V.int ((Int.fdiv (m.2.1 : Int) (1 * 2 ^ ((n : Int)).toNat)) % 2) = V.int 1))) H
    rw [one]
    unfold vec at q
    rw [vec_bit v6.f, if_pos (by omega)] at q
    exact q
  · have en : ((n : Int) - 6) = ((n - 6 : Nat) : Int) := by omega
    refine ⟨_, rfl, p, _, _, _, rfl, rfl, S, rfl, _, rfl, _, _, rfl, rfl, _, _, rfl, rfl, ⟨1, sz1, by omega, by omega⟩, _, _, rfl, rfl, ⟨by rw [en]; exact Int.ne_of_gt (pp (n - 6)), by rw [en]; exact sz7 (by omega)⟩, _, _, rfl, rfl, two_pos, rfl, ?_⟩
    show Q (.bl (decide (V.int ((Int.fdiv (m.2.2 : Int) (1 * 2 ^ ((n : Int) - 6).toNat)) % 2) = V.int 1))) H
    rw [en, one]
    unfold vec at q
    rw [vec_bit v6.f, if_neg (by omega)] at q
    exact q
end
end K53

set_option maxHeartbeats 4000000
namespace K53
open PySem PySem.Spec PyProof.Rows L2 Pc K51 M54 M57
open M53 (IsLd vec V6 wl vec_bit ev Alike ldm)
def spShape : Sp := fun vs H Q _ => ∃ (l : Addr) (ps : List Addr) (ms : List Mk), vs = [.ref l, .int ms.length] ∧ H l = some (.lst (ps.map V.ref)) ∧ Mks H ps ms ∧ Q (.bl true) H
def kk (m : Mk) : List Key := [Sum.inl (m.2.1 : Int), Sum.inl (m.2.2 : Int)]
structure Shows (S : List Mk) (kvs : List (List Key × V)) : Prop where
  val : ∀ m ∈ S, valV kvs (kk m) = some (.int m.1)
  v6 : ∀ m ∈ S, V6 m
  ld : ∀ m ∈ S, IsLd (vec m) (ldm m)
  rise : ∀ i j, i < j → j < S.length → ldm (S.getD i (0, 0, 0)) < ldm (S.getD j (0, 0, 0))
  off : ∀ i j, i < S.length → j < S.length → i ≠ j → bit (vec (S.getD i (0, 0, 0))) (ldm (S.getD j (0, 0, 0))) = 0
  len : S.length ≤ 6
def spIsRed : Sp := fun vs H Q _ => ∃ (l d : Addr) (ps : List Addr) (S : List Mk) (kvs : List (List Key × V)), vs = [.ref l, .ref d] ∧ H l = some (.lst (ps.map V.ref)) ∧ Mks H ps S ∧ H d = some (.dT kvs) ∧ Shows S kvs ∧ ∀ H', Same H H' → Q (.bl true) H'
theorem ld12 {m : Mk} {n : Nat} (v : V6 m) (l : IsLd (vec m) n) : n < 12 := by
  have one := l.one
  unfold vec at one
  rw [vec_bit v.f] at one
  split at one
  · omega
  · by_cases c2 : n - 6 < 6
    · omega
    · rw [bit_low v.s (by omega)] at one; cases one
section
variable {P : Program} {w : World} {K : PySem.W.Frag} {mg : Str → Option Value} {base : Heap} {k : Nat} {h : Heap}
theorem sc_shape : FnScope ["_law_found", "_law_many", "_law_mark"] ["_law_found", "_law_many"] (defScope (top 45)) := ⟨rfl, rfl, rfl, by decide +kernel, rfl, by decide +kernel, by decide +kernel⟩
theorem ok_shape (F : FunAt K "_law_shape" (top 45) .none) (X : K.In h) (G : h.Ns mainGlobals mg) (B : Bs mg) (c__law_whole : Cal P w K mg base k "_law_whole" ["_law_found"] spWhole) : Cal P w K mg base (k + 1) "_law_shape" ["_law_found", "_law_many"] spShape := by
  have nd := sc_shape.nd
  refine F.cal X G sc_shape (bnd2 fun _ _ _ _ _ _ _ _ => rfl) (fun vs H Q E' h => ?_) (fun f cdv A outer s H vs Q E' hr h => ?_)
  · obtain ⟨l, ps, ms, rfl, _⟩ := h; rfl
  obtain ⟨l, ps, ms, rfl, hl, hm, q⟩ := h
  have lps : (ps.map V.ref).length = ms.length := by rw [List.length_map, hm.length]
  refine ⟨_, (@pss_cons _ _ _ _ _ (ps_if (PW.pt (pw_or (pt_not (pt_val (pe_callB call_isinst rfl B.isinstance boot_isinstance (pa_cons (pv 0) (pa_cons (pe_bltn (v := .ty "list") rfl B.list boot_list rfl) pa_nil))))) (pw_or1 (pt_cmpR op_ne (pe_callB call_len_seq rfl B.len PySem.boot_len (pa_cons (pv 0) pa_nil)) (pv 1) (nomark _)))))
      (@pss_one _ _ _ (ps_ret pe_bl))
      pss_nil)
    (@pss_cons _ _ _ _ _ (ps_for PassesOwn.never rfl (pi_list (pv 0)) (pg_name (i := 2) nd rfl (Or.inl rfl))
      (@pss_cons _ _ _ _ _ (ps_if (PW.pt (pw_or (pt_not (pt_val (pe_callB call_isinst rfl B.isinstance boot_isinstance (pa_cons (pv 2) (pa_cons (pe_bltn (v := .ty "tuple") rfl B.tuple boot_tuple rfl) pa_nil))))) (pw_or1 (pt_cmpR op_ne (pe_callB call_len_seq rfl B.len PySem.boot_len (pa_cons (pv 2) pa_nil)) pe_int (nomark _)))))
        (@pss_one _ _ _ (ps_ret pe_bl))
        pss_nil)
      (@pss_one _ _ _ (ps_if (PW.pt (pw_or (pt_not (pt_val (pe_cal c__law_whole hr rfl (pa_cons (pe_ix ix_tup (pv 2) pe_int (fun _ _ => rfl)) pa_nil)))) (pw_or (pt_not (pt_val (pe_cal c__law_whole hr rfl (pa_cons (pe_ix ix_tup (pv 2) pe_int (fun _ _ => rfl)) pa_nil)))) (pw_or1 (pt_not (pt_val (pe_cal c__law_whole hr rfl (pa_cons (pe_ix ix_tup (pv 2) pe_int (fun _ _ => rfl)) pa_nil))))))))
        (@pss_one _ _ _ (ps_ret pe_bl))
        pss_nil))))
    (@pss_one _ _ _ (ps_ret pe_bl)))), ?_⟩
  try dsimp only [cxK]
  refine ⟨_, rfl, _, _, _, true, rfl, TyOf.lst hl, kit_ll K, _, rfl, iteF ⟨_, rfl, l, _, rfl, .inl (SqL.of hl), _, rfl, rfl, _, rfl, neI (fun z => absurd (by rw [lps]) z) (fun _ => ?_)⟩⟩
  refine ⟨_, rfl, l, rfl, ⟨_, SqL.of hl⟩, for_list (K := K) (a := l) (xs := ps.map V.ref) (fun i σ H' => H' = H ∧ ∃ v, σ = [some (.ref l), some (.int ms.length), v]) ⟨rfl, none, rfl⟩ (fun i σ H' _ e => by rw [e.1]; exact SqL.of hl) ?_ ?_⟩
  · rintro i x σ H1 hx ⟨rfl, v, rfl⟩
    rw [List.getElem?_map] at hx
    obtain ⟨p, hp, rfl⟩ := Option.map_eq_some_iff.mp hx
    obtain ⟨m, hmi, hpm⟩ := hm.get hp
    have SP : SqT K H1 p (L3 m) := SqT.of hpm
    refine ⟨_, rfl, _, _, _, true, rfl, TyOf.tup hpm, kit_tt K, _, rfl, iteF ⟨_, rfl, p, _, rfl, .inr SP, rfl, _, rfl, neI (fun z => absurd rfl z) (fun _ => ?_)⟩⟩
    exact ⟨_, rfl, p, _, _, _, rfl, rfl, SP, rfl, _, rfl, _, rfl, iteF ⟨_, rfl, p, _, _, _, rfl, rfl, SP, rfl, _, rfl, _, rfl, iteF ⟨_, rfl, p, _, _, _, rfl, rfl, SP, rfl, _, rfl, _, rfl, iteF ⟨rfl, _, rfl⟩⟩⟩⟩
  · rintro σ H1 ⟨rfl, v, rfl⟩
    exact q
theorem sc_isred : FnScope ["_law_found", "_law_marks", "_law_last", "_law_place", "_law_mark", "_law_other_here"] ["_law_found", "_law_marks"] (defScope (top 46)) := ⟨rfl, rfl, rfl, by decide +kernel, rfl, by decide +kernel, by decide +kernel⟩
theorem ok_isred (F : FunAt K "_law_is_reduced" (top 46) .none) (X : K.In h) (G : h.Ns mainGlobals mg) (B : Bs mg) (c__law_lead : Cal P w K mg base k "_law_lead" ["_law_mark"] (spLead K))
    (c__law_has : Cal P w K mg base k "_law_has" ["_law_mark", "_law_lead_here"] (fun vs H Q E' => ∃ (p : Addr) (m : Mk) (n : Nat), vs = [.ref p, .int n] ∧ SqT K H p (L3 m) ∧ V6 m ∧ n < 12 ∧ Q (.bl (decide (bit (vec m) n = 1))) H)) : Cal P w K mg base (k + 1) "_law_is_reduced" ["_law_found", "_law_marks"] spIsRed := by
  have nd := sc_isred.nd
  refine F.cal X G sc_isred (bnd2 fun _ _ _ _ _ _ _ _ => rfl) (fun vs H Q E' h => ?_) (fun f cdv A outer s H vs Q E' hr h => ?_)
  · obtain ⟨l, d, ps, S, kvs, rfl, _⟩ := h; rfl
  obtain ⟨l, d, ps, S, kvs, rfl, hl, hm, hd, W, kq⟩ := h
  have lps : (ps.map V.ref).length = S.length := by rw [List.length_map, hm.length]
  have l6 := W.len
  refine ⟨_, (@pss_cons _ _ _ _ _ (@ps_set _ _ 2 _ _ _ _ nd rfl (Or.inl rfl) (pe_un un_neg pe_int) rfl (.inl rfl))
    (@pss_cons _ _ _ _ _ (ps_for PassesOwn.never rfl (pi_range1 rfl B.range (pa_cons (pe_callB call_len_seq rfl B.len PySem.boot_len (pa_cons (pv 0) pa_nil)) pa_nil)) (pg_name (i := 3) nd rfl (Or.inl rfl))
      (@pss_cons _ _ _ _ _ (@ps_set _ _ 4 _ _ _ _ nd rfl (Or.inl rfl) (pe_ix ix_list (pv 0) (pv 3) (fun _ _ => rfl)) rfl (.inl rfl))
      (@pss_cons _ _ _ _ _ (ps_if (PW.pt (pw_or (pt_cmpR op_ne (pe_dget1 (hu_of hr) (pv 1) (@pe_tup _ _ _ _ _ (pa_cons (pe_ix ix_tup (pv 4) pe_int (fun _ _ => rfl)) (pa_cons (pe_ix ix_tup (pv 4) pe_int (fun _ _ => rfl)) pa_nil))) ⟨rfl, rfl, rfl, rfl⟩) (pe_ix ix_tup (pv 4) pe_int (fun _ _ => rfl)) (nomark _)) (pw_or1 (pt_cmpR op_le (pe_cal c__law_lead hr rfl (pa_cons (pv 4) pa_nil)) (pv 2) (nomark _)))))
        (@pss_one _ _ _ (ps_ret pe_bl))
        pss_nil)
      (@pss_cons _ _ _ _ _ (@ps_set _ _ 2 _ _ _ _ nd rfl (Or.inl rfl) (pe_cal c__law_lead hr rfl (pa_cons (pv 4) pa_nil)) rfl (.inl rfl))
      (@pss_one _ _ _ (ps_for PassesOwn.never rfl (pi_range1 rfl B.range (pa_cons (pe_callB call_len_seq rfl B.len PySem.boot_len (pa_cons (pv 0) pa_nil)) pa_nil)) (pg_name (i := 5) nd rfl (Or.inl rfl))
        (@pss_one _ _ _ (ps_if (PW.pt (pw_and (pt_cmpR op_ne (pv 5) (pv 3) (nomark _)) (pw_and1 (pt_val (pe_cal c__law_has hr rfl (pa_cons (pe_ix ix_list (pv 0) (pv 5) (fun _ _ => rfl)) (pa_cons (pv 2) pa_nil)))))))
          (@pss_one _ _ _ (ps_ret pe_bl))
          pss_nil))))))))
    (@pss_one _ _ _ (ps_ret pe_bl)))), ?_⟩
  try dsimp only [cxK]
  refine ⟨_, rfl, ?_⟩
  refine ⟨_, rfl, l, _, rfl, .inl (SqL.of hl), _, rfl, by omega, by omega, ?_⟩
  rw [Int.toNat_natCast]
  refine for_range (n := (ps.map V.ref).length) (fun i σ H' => Same H H' ∧ ∃ (la : Int) (v3 v4 v5 : Option V), (∀ j, i ≤ j → j < S.length → la < ldm (S.getD j (0, 0, 0))) ∧ σ = [some (.ref l), some (.ref d), some (.int la), v3, v4, v5]) ⟨Same.refl _, -1, none, none, none, fun j _ _ => by omega, rfl⟩ ?_ ?_
  · rintro i σ H1 hi ⟨S1, la, v3, v4, v5, lo, rfl⟩
    have e0 : (0 : Int) + (i : Int) = (i : Int) := Int.zero_add _
    have hi' : i < S.length := by omega
    obtain ⟨p, e1, e2⟩ := hm.at hi'
    have hat : atI (ps.map V.ref) (0 + (i : Int)) = some (V.ref p) := by rw [e0]; exact atI_nat (by rw [List.getElem?_map, e1]; rfl)
    have mem := M53.gmem (ms := S) hi'
    have p1 := S1 _ _ e2
    have SP : SqT K H1 p (L3 (S.getD i (0, 0, 0))) := SqT.of p1
    have lm := W.ld _ mem
    have vm := W.v6 _ mem
    refine ⟨_, rfl, _, rfl, l, _, _, _, rfl, rfl, SqL.of (S1 _ _ hl), hat, ?_⟩
    refine ⟨_, rfl, d, rfl, .inr ⟨_, .of (S1 _ _ hd)⟩, _, rfl, p, _, _, _, rfl, rfl, SP, rfl, _, rfl, p, _, _, _, rfl, rfl, SP, rfl, t2, fun kt hkt => ?_⟩
    have sk := same_new hkt (.tup [.int (S.getD i (0, 0, 0)).2.1, .int (S.getD i (0, 0, 0)).2.2])
    have ekt := upd_same (H := H1) (a := kt) (o := .tup [.int (S.getD i (0, 0, 0)).2.1, .int (S.getD i (0, 0, 0)).2.2])
    have S2 := S1.trans sk
    have p2 := sk _ _ p1
    have g2 := DGet.t (k := kk (S.getD i (0, 0, 0))) (S2 _ _ hd) ekt
    rw [W.val _ mem] at g2
    generalize upd H1 kt (.tup [.int (S.getD i (0, 0, 0)).2.1, .int (S.getD i (0, 0, 0)).2.2]) = H2 at *
    have SP2 : SqT K H2 p (L3 (S.getD i (0, 0, 0))) := SqT.of p2
    refine ⟨_, g2, _, rfl, p, _, _, _, rfl, rfl, SP2, rfl, rfl, _, rfl, neI (fun z => absurd rfl z) (fun _ => ?_)⟩
    refine ⟨_, rfl, p, _, ldm (S.getD i (0, 0, 0)), rfl, SP2, vm, lm, _, rfl, _, _, rfl, rfl, _, rfl, decI (fun z => absurd z (by have := lo i (Nat.le_refl _) hi'; omega)) (fun _ => ?_)⟩
    refine ⟨_, rfl, p, _, ldm (S.getD i (0, 0, 0)), rfl, SP2, vm, lm, ?_⟩
    refine ⟨_, rfl, l, _, rfl, .inl (SqL.of (S2 _ _ hl)), _, rfl, by omega, by omega, ?_⟩
    rw [Int.toNat_natCast]
    refine for_range (n := (ps.map V.ref).length) (fun j σ H' => H' = H2 ∧ ∃ v5, σ = [some (.ref l), some (.ref d), some (.int (ldm (S.getD i (0, 0, 0)))), some (.int (0 + (i : Int))), some (.ref p), v5]) ⟨rfl, _, rfl⟩ ?_ ?_
    · rintro j σ H3 hj ⟨rfl, v5, rfl⟩
      have f0 : (0 : Int) + (j : Int) = (j : Int) := Int.zero_add _
      have hj' : j < S.length := by omega
      obtain ⟨r, r1, r2⟩ := hm.at hj'
      have hatj : atI (ps.map V.ref) (0 + (j : Int)) = some (V.ref r) := by rw [f0]; exact atI_nat (by rw [List.getElem?_map, r1]; rfl)
      have memj := M53.gmem (ms := S) hj'
      refine ⟨_, rfl, _, rfl, rfl, _, rfl, neI (fun ne => ?_) (fun _ => ⟨rfl, _, rfl⟩)⟩
      have nij : j ≠ i := fun z => by subst z; exact ne rfl
      refine ⟨_, rfl, _, rfl, l, _, _, _, rfl, rfl, SqL.of (S2 _ _ hl), hatj, _, rfl, r, _, ldm (S.getD i (0, 0, 0)), rfl, SqT.of (S2 _ _ r2), W.v6 _ memj, ld12 vm lm, _, rfl, decI (fun z => ?_) (fun _ => ⟨rfl, _, rfl⟩)⟩
      rw [W.off j i hj' hi' nij] at z
      cases z
    · rintro σ H3 ⟨rfl, v5, rfl⟩
      exact ⟨S2, _, _, _, _, fun j hj hjl => by have := W.rise i j (by omega) hjl; omega, rfl⟩
  · rintro σ H1 ⟨S1, la, v3, v4, v5, lo, rfl⟩
    exact kq H1 S1
end
end K53

set_option maxHeartbeats 4000000
/-! sorted(a list, key = a def of the text that tells an int and changes nothing) -/
namespace L2
open PySem PySem.Spec PyProof.Rows

theorem perm_map {α β : Type} {f : α → β} : ∀ {l m : List β}, l.Perm m → ∀ {r : List α}, m = r.map f → ∃ r' : List α, r'.Perm r ∧ l = r'.map f := by
  intro l m h
  induction h with
  | nil =>
    intro r e
    cases r with
    | nil => exact ⟨[], .nil, rfl⟩
    | cons => cases e
  | cons x h ih =>
    intro r e
    cases r with
    | nil => cases e
    | cons y r =>
      rw [List.map_cons] at e
      injection e with e1 e2
      obtain ⟨r', p, e'⟩ := ih e2
      exact ⟨y :: r', p.cons y, by rw [List.map_cons, e1, e']⟩
  | swap x y l =>
    intro r e
    cases r with
    | nil => cases e
    | cons a r =>
      cases r with
      | nil => cases e
      | cons b r =>
        rw [List.map_cons, List.map_cons] at e
        injection e with e1 e2
        injection e2 with e2 e3
        exact ⟨b :: a :: r, .swap _ _ _, by rw [List.map_cons, List.map_cons, e1, e2, e3]⟩
  | trans h1 h2 ih1 ih2 =>
    intro r e
    obtain ⟨r2, p2, e2⟩ := ih2 e
    obtain ⟨r1, p1, e1⟩ := ih1 e2
    exact ⟨r1, p1.trans p2, e1⟩

theorem vals_zip : ∀ {xs : List V} {us : List Value}, Vals xs us → ∀ p ∈ xs.zip us, RelV p.1 p.2
  | _, _, .nil, _, h => nomatch h
  | _, _, .cons r rs, p, h => by
    rw [List.zip_cons_cons] at h
    rcases List.mem_cons.mp h with rfl | h
    · exact r
    · exact vals_zip rs p h
theorem vals_of_zip : ∀ {l : List (V × Value)}, (∀ p ∈ l, RelV p.1 p.2) → Vals (l.map (·.1)) (l.map (·.2))
  | [], _ => .nil
  | p :: l, h => .cons (h p (.head _)) (vals_of_zip fun q hq => h q (.tail _ hq))
theorem zip3 {kz : List Int} : ∀ {xs : List V} {us : List Value}, xs.length = us.length →
    kz.zip us = (kz.zip (xs.zip us)).map (fun t => (t.1, t.2.2)) ∧ kz.zip xs = (kz.zip (xs.zip us)).map (fun t => (t.1, t.2.1)) := by
  induction kz with
  | nil => intro xs us _; exact ⟨rfl, rfl⟩
  | cons k kz ih =>
    intro xs us h
    cases xs with
    | nil =>
      cases us with
      | nil => exact ⟨rfl, rfl⟩
      | cons => cases h
    | cons x xs =>
      cases us with
      | nil => cases h
      | cons u us =>
        obtain ⟨a, b⟩ := ih (xs := xs) (us := us) (Nat.succ.inj h)
        simp only [List.zip_cons_cons, List.map_cons]
        exact ⟨by rw [← a], by rw [← b]⟩
theorem out_vals {kz : List Int} {xs : List V} {us out : List Value} (r : Vals xs us) (h : KskOut false kz us out) :
    ∃ ps : List (Int × V), ps.Perm (kz.zip xs) ∧ Vals (ps.map (·.2)) out ∧ ps.Pairwise fun p q => p.1 ≤ q.1 := by
  obtain ⟨ps, hp, ho, hs⟩ := h
  obtain ⟨e1, e2⟩ := zip3 (kz := kz) r.length
  obtain ⟨l, pl, el⟩ := perm_map hp e1
  refine ⟨l.map fun t => (t.1, t.2.1), ?_, ?_, ?_⟩
  · rw [e2]
    exact pl.map _
  · have hr : ∀ p ∈ l.map (·.2), RelV p.1 p.2 := fun p hp => by
      obtain ⟨t, ht, rfl⟩ := List.mem_map.mp hp
      have := pl.mem_iff.mp ht
      exact vals_zip r _ (List.of_mem_zip (a := t.1) (b := t.2) this).2
    have hv := vals_of_zip hr
    rw [ho, el]
    simp only [List.map_map] at hv ⊢
    exact hv
  · rw [el] at hs
    rw [List.pairwise_map] at hs ⊢
    exact hs

theorem sk_end {prog : Program} {w : World} {A : Around} {E : Value → Shared → Prop} {s : Shared} {D kS : Addr} {us : List Value} {kz : List Int} {keys : Array Value} {e e1 : Nat} {P : PySem.Fin → Shared → Prop}
    (nk : s.heap.get? kS = some (seqObj "list" keys e)) (nd : s.heap.get? D = some (seqObj "list" #[] e1)) (hkd : kS ≠ D) (hk : IntsAre keys.toList kz) (hl : kz.length = us.length) (h64 : us.length < 64)
    (h : ∀ (h1 h2 : Heap) (out : Array Value) (c : Nat), (∀ b, b ≠ kS → h1.get? b = s.heap.get? b) → (∀ b, b ≠ D → h2.get? b = h1.get? b) → h2.get? D = some (seqObj "list" out c) → KskOut false kz us out.toList → P (.done (.ret .none)) { s with heap := h2 }) :
    wpAny (model prog w) A (ksk_end D false us.toArray e1 (.ref kS) keys) P E s := by
  have hn : keys.size = us.length := by
    have := hk.length
    rw [Array.length_toList] at this
    exact this.trans hl
  have hzn : (keys.zip us.toArray).size = us.length := by rw [Array.size_zip, hn, List.size_toArray, Nat.min_self]
  have l64 : (64 : Nat) ≤ sizeLine := by decide
  have tail : ∀ st : SortSt, (arrOf st).Perm (keys.zip us.toArray) → SortedTo (arrOf st) (arrOf st).size → failedOf st = none → wpAny (model prog w) A (ksk_tail D false e1 (.ref kS) st) P E s := by
    intro st hp hs hf
    have hz : ((arrOf st).map (·.2)).size = us.length := by rw [Array.size_map, hp.size_eq, hzn]
    obtain ⟨_, q1⟩ := Heap.SameBut.update s.heap kS (Obj.mapSeq fun _ => (#[] : Array Value))
    have nd1 := (q1 D hkd.symm).trans nd
    obtain ⟨_, q2⟩ := Heap.SameBut.update (s.heap.update kS (Obj.mapSeq fun _ => (#[] : Array Value))) D (Obj.mapSeq fun _ => (arrOf st).map (·.2))
    have nd2 := get?_update_seq nd1 fun _ => (arrOf st).map (·.2)
    unfold ksk_tail
    simp only [Bool.false_eq_true, if_false]
    refine wpAny_bind (listUpdate_at nk rfl ?_ (by rw [hn]; omega) (Nat.zero_le _))
    refine wpAny_bind (wpAny_letGo (wpAny_bind (seqEpoch_at nd1 rfl ?_)))
    refine wpAny_bind (listUpdate_at nd1 rfl ?_ (Nat.zero_le _) (by omega))
    rw [hf]
    simp only [bne_self_eq_false, Bool.false_eq_true, if_false]
    exact wpAny_pure (h _ _ _ _ q1 q2 nd2 (ksk_out (b := false) hk hp hs))
  unfold ksk_end
  dsimp only
  rw [if_neg Bool.false_ne_true]
  by_cases h2 : us.toArray.size < 2
  · rw [if_pos h2, if_pos h2]
    refine wpAny_bind (wpAny_pure ?_)
    rw [StateT.run_pure]
    refine wpAny_bind (wpAny_pure (tail _ (Array.Perm.refl _) (fun i j hij hj => ?_) rfl))
    have hj' : j < (keys.zip us.toArray).size := hj
    rw [List.size_toArray] at h2
    have : i = j := by omega
    rw [this]
    exact Int.le_refl _
  · rw [if_neg h2, if_neg h2, ksk_kind hk (by rw [hn]; rw [List.size_toArray] at h2; omega)]
    rw [List.size_toArray] at h2
    refine wpAny_bind (wpAny_pure (wpAny_bind (wpAny_mono (wpS_sortRuns (a₀ := keys.zip us.toArray)
      (Q := fun _ t => (arrOf t).Perm (keys.zip us.toArray) ∧ failedOf t = none ∧ SortedTo (arrOf t) (keys.zip us.toArray).size) (ksk_intKeys hk) ⟨Array.Perm.refl _, rfl, rfl, rfl⟩ (by rw [hzn]; omega) (by rw [hzn]; omega) fun t a b c => ⟨a, b, c⟩) ?_ fun _ _ z => z)))
    rintro ⟨⟨⟩, t⟩ s' ⟨rfl, hp, hf, hs⟩
    exact tail t hp (by rw [hp.size_eq]; exact hs) hf
end L2

set_option maxHeartbeats 4000000
namespace L2
open PySem PySem.Spec PyProof.Rows

def Cx.low (X : Cx) : Cx := { X with A := X.A.in1.in1, xe := Calm }
theorem Cx.Ok.low {X : Cx} (o : X.Ok) : X.low.Ok := ⟨o.1, o.2, o.3, o.4, o.5, o.6, o.7, o.8, o.9, o.10, o.11, o.12, o.13, o.14, o.15, o.16, o.17, o.18⟩
section
variable {X : Cx} {pins : List (Addr × Obj)} {σ : St} {H : Hp} {s : Shared}
theorem Inv.low (I : Inv X pins σ H s) : Inv X.low pins σ H s := ⟨I.ok.low, I.2, I.3, I.4, I.5, I.6, I.7, I.8, I.9, I.10, I.11⟩
theorem Inv.high (I : Inv X.low pins σ H s) (o : X.Ok) : Inv X pins σ H s := ⟨o, I.2, I.3, I.4, I.5, I.6, I.7, I.8, I.9, I.10, I.11⟩
theorem Inv.track {D : Addr} {ys : List V} {us : List Value} {n : Nat} (I : Inv X pins σ H s) (f : FpOk X pins H D) (hz : ys.length ≤ sizeLine) (r : Vals ys us) (e : s.heap.get? D = some (seqObj "list" us.toArray n)) :
    Inv X pins σ (upd H D (.lst ys)) s := by
  have far : ∀ b u, H b = some u → b ≠ D := fun b u q z => by rw [z, f.1] at q; cases q
  refine I.step (h' := s.heap) (g' := s.gens) (d' := s.drawn) (t' := s.toks) (ch := [D]) (fun b hb => ?_) (fun b o _ _ _ q _ => q) (fun b o _ _ _ q _ => ⟨o.slots, q⟩) (fun b o hc _ q => ?_) (fun b o _ q => ⟨o, q⟩)
    (fun b xs q => ?_) (fun b o u q => ?_) (fun b ps q => ⟨#[], ?_⟩) (fun m hm => hm) (fun b u q => ?_) I.bare
  · cases List.mem_singleton.mp hb
    exact ⟨f.2.2.2.1, f.2.1, f.2.2.2.2.1, f.2.2.2.2.2⟩
  · rw [upd_ne fun z => hc (List.mem_singleton.mpr z)]; exact q
  · rw [upd_ne (far _ _ q)]; exact q
  · rw [upd_ne (far _ _ q)]; exact q
  · rw [upd_ne (far _ _ q), q]; simp
  · by_cases hb : b = D
    · subst hb
      rw [upd_same] at q
      cases q
      exact ⟨hz, us, n, r, e⟩
    · rw [upd_ne hb] at q
      exact (I.hok b u q).stay (fun _ _ _ q => q) (fun c q => by rw [upd_ne (far _ _ q)]; exact q) fun c xs q => by rw [upd_ne (far _ _ q)]; exact q
end

theorem call_sortKey {X : Cx} {k : Nat} {f : Addr} {fd : FuncData} {p0 : Str} {sp : Sp} (F : FnOk X.prog X.w X.K X.mg X.base CX0 k f fd [p0] sp) (hb : Binds X.K fd [p0] []) (hr : Room (k + 2) X.A)
    {pins : List (Addr × Obj)} {s : Shared} {σ : St} {H : Hp} {l : Addr} {xs : List V} {kz : List Int} {Q : VK} (I : Inv X pins σ H s) (hl : H l = some (.lst xs)) (hkz : kz.length = xs.length) (h64 : xs.length < 64)
    (turn : ∀ (i : Nat) x z, xs[i]? = some x → kz[i]? = some z → sp [x] H (fun v H' => v = .int z ∧ H' = H) E0)
    (q : ∀ (D : Addr) (ps : List (Int × V)), H D = none → ps.Perm (kz.zip xs) → ps.Pairwise (fun a b => a.1 ≤ b.1) → Q (.ref D) (upd H D (.lst (ps.map (·.2))))) :
    wpAny (model X.prog X.w) X.A (call (.builtin "sorted") [.ref l] [(Str.ofString "key", .ref f)]) (EP X pins σ Q) X.xe s := by
  obtain ⟨_, its, n, rv, el, ho⟩ := I.lstM hl
  have hlen : its.length < 64 := by omega
  have l64 : (64 : Nat) ≤ sizeLine := by decide
  have hzi : kz.length = its.length := hkz.trans el
  refine call_function_entry_kw kind_sorted plain_sorted entry_sorted (ksk_s1 _ _) ?_
  unfold Builtin.«sorted»
  refine wpAny_bind (m := checkCount "sorted" 1 1 _) (wpAny_pure ?_)
  refine wpAny_bind (collect_list (vs := its) ⟨_, ho, rfl, n, rfl⟩ ?_ (by omega))
  have k0 : ∀ b o, s.heap.get? b = some o → ((s.heap.push (seqObj "list" #[] 0)).update s.heap.objs.size (Obj.mapSeq (· ++ its.toArray))).get? b = some o := fun b o x => by
    rw [Heap.get?_update_ne _ _ _ _ (Nat.ne_of_lt (Heap.lt_size x))]
    exact Heap.get?_push_of_some _ x
  have z0 : s.heap.objs.size ≤ ((s.heap.push (seqObj "list" #[] 0)).update s.heap.objs.size (Obj.mapSeq (· ++ its.toArray))).objs.size := by
    rw [Heap.size_update, size_push']
    exact Nat.le_succ _
  revert k0 z0
  generalize (s.heap.push (seqObj "list" #[] 0)).update s.heap.objs.size (Obj.mapSeq (· ++ its.toArray)) = g
  intro k0 z0
  refine wpAny_bind (wpAny_newList ?_ (by omega))
  have oD : (g.push (seqObj "list" its.toArray 0)).get? g.objs.size = some (seqObj "list" its.toArray 0) := Heap.get?_push_size _ rfl
  have k1 : ∀ b o, s.heap.get? b = some o → (g.push (seqObj "list" its.toArray 0)).get? b = some o := fun b o x => Heap.get?_push_of_some _ (k0 b o x)
  have z1 : (g.push (seqObj "list" its.toArray 0)).objs.size = g.objs.size + 1 := size_push' ..
  revert z0 oD k1 z1
  generalize g.push (seqObj "list" its.toArray 0) = g1
  generalize g.objs.size = D
  intro z0 oD k1 z1
  refine wpAny_bind (wpAny_holding (wpAny_call_entry_kw slot_list_sort ⟨_, oD, rfl⟩ entry_list_sort ?_ (ksk_l1 _ _)))
  show wpAny (model X.prog X.w) X.low.A (Builtin.«list.sort» ⟨[.ref D], [(Str.ofString "key", .ref f)]⟩) _ _ _
  rw [ksk_t1]
  unfold ksk_tree
  refine wpAny_bind (listItems_at oD rfl ?_)
  refine wpAny_bind (listUpdate_at oD rfl ?_ (by rw [List.size_toArray]; omega) (Nat.zero_le _))
  obtain ⟨e1, oD1⟩ : ∃ e1, (g1.update D (Obj.mapSeq fun _ => (#[] : Array Value))).get? D = some (seqObj "list" #[] e1) := ⟨_, get?_update_seq oD fun _ => #[]⟩
  have k2 : ∀ b o, s.heap.get? b = some o → (g1.update D (Obj.mapSeq fun _ => (#[] : Array Value))).get? b = some o := fun b o x => by
    rw [Heap.get?_update_ne _ _ _ _ (Nat.ne_of_lt (Nat.lt_of_lt_of_le (Heap.lt_size x) z0))]
    exact k1 b o x
  have z2 : D < (g1.update D (Obj.mapSeq fun _ => (#[] : Array Value))).objs.size := by rw [Heap.size_update, z1]; exact Nat.lt_succ_self _
  revert oD1 k2 z2
  show _ → _ → _ → wpAny _ _ _ _ _ { s with heap := g1.update D (Obj.mapSeq fun _ => (#[] : Array Value)) }
  generalize g1.update D (Obj.mapSeq fun _ => (#[] : Array Value)) = g2
  intro oD1 k2 z2
  refine wpAny_bind (seqEpoch_at oD1 rfl ?_)
  refine wpAny_bind (wpAny_newTuple ?_ (by show its.length ≤ _; omega))
  have k3 : ∀ b o, g2.get? b = some o → (g2.push (seqObj "tuple" its.toArray 0)).get? b = some o := fun b o x => Heap.get?_push_of_some _ x
  have z3 : (g2.push (seqObj "tuple" its.toArray 0)).objs.size = g2.objs.size + 1 := size_push' ..
  revert k3 z3
  show _ → _ → wpAny _ _ _ _ _ { s with heap := g2.push (seqObj "tuple" its.toArray 0) }
  generalize g2.push (seqObj "tuple" its.toArray 0) = g3
  intro k3 z3
  refine wpAny_bind (wpAny_newList ?_ (Nat.zero_le _))
  have oK : (g3.push (seqObj "list" (#[] : Array Value) 0)).get? g3.objs.size = some (seqObj "list" #[] 0) := Heap.get?_push_size _ rfl
  have k4 : ∀ b o, g3.get? b = some o → (g3.push (seqObj "list" (#[] : Array Value) 0)).get? b = some o := fun b o x => Heap.get?_push_of_some _ x
  have zK : D < g3.objs.size := by omega
  revert oK k4 zK
  show _ → _ → _ → wpAny _ _ _ _ _ { s with heap := g3.push (seqObj "list" (#[] : Array Value) 0) }
  generalize g3.push (seqObj "list" (#[] : Array Value) 0) = g4
  generalize g3.objs.size = kS
  intro oK k4 zK
  have hn : ∀ b, s.heap.objs.size ≤ b → H b = none := fun b x => I.hok.fresh x
  have fD : FpOk X.low pins H D := I.fpOk z0 (hn D z0)
  have fK : FpOk X.low pins H kS := I.fpOk (by omega) (hn kS (by omega))
  have hne : kS ≠ D := Nat.ne_of_gt zK
  have pin2 : ∀ {s' : Shared} {kA : Array Value} {e : Nat}, Inv X.low pins σ H s' → s'.heap.get? kS = some (seqObj "list" kA e) → s'.heap.get? D = some (seqObj "list" #[] e1) →
      Inv X.low (pins ++ [(kS, seqObj "list" kA e), (D, seqObj "list" #[] e1)]) σ H s' := fun {s' kA e} J a b => J.pins_of fun p hp => by
    rcases List.mem_append.mp hp with hp | hp
    · exact J.pin p (List.mem_append_right _ hp)
    · rcases List.mem_cons.mp hp with rfl | hp
      · exact ⟨a, fK.1, fK.2.1, fK.2.2.1, fun v z => by cases z⟩
      · cases List.mem_singleton.mp hp
        exact ⟨b, fD.1, fD.2.1, fD.2.2.1, fun v z => by cases z⟩
  have at2 : ∀ {s' : Shared} {kA : Array Value} {e : Nat}, Inv X.low (pins ++ [(kS, seqObj "list" kA e), (D, seqObj "list" #[] e1)]) σ H s' → s'.heap.get? kS = some (seqObj "list" kA e) ∧ s'.heap.get? D = some (seqObj "list" #[] e1) := fun J =>
    ⟨(J.pin (kS, _) (List.mem_append_right _ (List.mem_append_right _ (.head _)))).1, (J.pin (D, _) (List.mem_append_right _ (List.mem_append_right _ (.tail _ (.head _))))).1⟩
  have I4 : Inv X.low pins σ H { s with heap := g4 } := I.low.kept (t' := s.toks) fun b o x => k4 b o (k3 b o (k2 b o x))
  have hr2 : Room k X.low.A := hr.in1.in1
  refine wpAny_holding ?_
  unfold ksk_rest
  refine wpAny_bind (wpAny_rule ?_)
  rw [List.forIn_toArray]
  refine wpAny_bind (ksk_fold (fun i s' => ∃ kA e, Inv X.low (pins ++ [(kS, seqObj "list" kA e), (D, seqObj "list" #[] e1)]) σ H s' ∧ IntsAre kA.toList (kz.take i)) its 0 _
    ⟨#[], 0, pin2 I4 oK (k4 _ _ (k3 _ _ oD1)), by simpa using IntsAre.nil⟩ (fun j u s' hu J => ?_) fun s' J => ?_)
  · obtain ⟨kA, e, J, hk⟩ := J
    rw [Nat.zero_add] at hk ⊢
    have hj : j < its.length := (List.getElem?_eq_some_iff.mp hu).1
    obtain ⟨z, hz⟩ : ∃ z, kz[j]? = some z := ⟨_, List.getElem?_eq_getElem (by omega)⟩
    obtain ⟨x, hx⟩ : ∃ x, xs[j]? = some x := ⟨_, List.getElem?_eq_getElem (by omega)⟩
    have rx : RelV x u := vals_zip rv (x, u) (List.mem_iff_getElem?.mpr ⟨j, by rw [List.getElem?_zip_eq_some]; exact ⟨hx, hu⟩⟩)
    have hA : kA.size ≤ its.length := by
      have := hk.length
      rw [Array.length_toList, List.length_take] at this
      omega
    refine wpAny_bind (wpAny_attempt (wpAny_mono (run_fn (X := X.low) (us := [u]) (vs := [x]) (ds := []) (dvs := []) F hr2 hb .nil pass0 J (.cons rx .nil) (turn j x z hx hz)) (fun v s2 c => ?_) fun _ _ c => c.elim))
    obtain ⟨y, H2, J2, ry, rfl, rfl⟩ := c
    obtain ⟨t, rfl⟩ := ry
    obtain ⟨a1, a2⟩ := at2 J2
    dsimp only
    refine wpAny_bind (listUpdate_at a1 rfl ?_ (by omega) (by rw [Array.size_push]; omega))
    have J3 := J2.unpinned.turned (t' := s2.toks) (h' := s2.heap.update kS (Obj.mapSeq (·.push (.int z t)))) (it := kS) (fun b o h x => by rw [Heap.get?_update_ne _ _ _ _ h]; exact x) fK.1 fK.2.1 fK.2.2.2.1 fK.2.2.2.2.1 fK.2.2.2.2.2
    refine wpAny_pure ⟨rfl, kA.push (.int z t), _, pin2 J3 (get?_update_seq a1 _) ((Heap.get?_update_ne _ _ _ _ hne.symm).trans a2), ?_⟩
    rw [List.take_add_one, hz, Array.toList_push]
    exact ksk_snoc hk
  · obtain ⟨kA, e, J, hk⟩ := J
    rw [Nat.zero_add, ← hzi, List.take_length] at hk
    obtain ⟨a1, a2⟩ := at2 J
    refine wpAny_bind (listItems_at a1 rfl ?_)
    refine sk_end a1 a2 hne hk hzi hlen fun h1 h2 out c q1 q2 oD2 ko => ⟨_, rfl, wpAny_pure ⟨_, rfl, ?_⟩⟩
    obtain ⟨ps, pp, pv, po⟩ := out_vals rv ko
    have J1 := J.unpinned.turned (t' := s'.toks) (h' := h1) (it := kS) (fun b o h x => by rw [q1 b h]; exact x) fK.1 fK.2.1 fK.2.2.2.1 fK.2.2.2.2.1 fK.2.2.2.2.2
    have J2 := J1.turned (t' := s'.toks) (h' := h2) (it := D) (fun b o h x => by rw [q2 b h]; exact x) fD.1 fD.2.1 fD.2.2.2.1 fD.2.2.2.2.1 fD.2.2.2.2.2
    have hpl : (ps.map (·.2)).length ≤ sizeLine := by
      have := pp.length_eq
      rw [List.length_zip] at this
      rw [List.length_map]
      omega
    have J4 := J2.track fD hpl pv (n := c) (by rw [Array.toArray_toList]; exact oD2)
    exact ⟨.ref D, _, J4.high I.ok, rfl, q D ps (hn D z0) pp po⟩

def SortK (sp : Sp) (Q : VK) (v : V) (H1 : Hp) : Prop := ∃ (l : Addr) (xs : List V) (kz : List Int), v = .ref l ∧ H1 l = some (.lst xs) ∧ kz.length = xs.length ∧ xs.length < 64 ∧
  (∀ (i : Nat) x z, xs[i]? = some x → kz[i]? = some z → sp [x] H1 (fun v H' => v = .int z ∧ H' = H1) E0) ∧
  ∀ (D : Addr) (ps : List (Int × V)), H1 D = none → ps.Perm (kz.zip xs) → ps.Pairwise (fun a b => a.1 ≤ b.1) → Q (.ref D) (upd H1 D (.lst (ps.map (·.2))))
def tSortK (sp : Sp) (te : TE) : TE := fun σ H Q => te σ H fun v H1 => SortK sp Q v H1
theorem pe_sortK {X : Cx} {k : Nat} {y p0 : Str} {sp : Sp} {e : Expr} {te : TE} {p p2 kp pos : Pos} (c : Cal X.prog X.w X.K X.mg X.base k y [p0] sp) (hr : Room (k + 2) X.A) (hg : Gl X "sorted") (hm : X.mg "sorted" = none) (hgy : Gl X y) (he : PE X e te)
    (hdy : (y == ("__debug__" : Str)) = false := by decide) (hs : starEach [e] X.env = (false, eval e X.env) :: starEach [] X.env := by rfl) :
    PE X (.Call (.Name "sorted" p) [e] [⟨some "key", .Name y p2, kp⟩] pos) (tSortK sp te) := by
  intro pins s σ H Q I h
  obtain ⟨f, fd, F, b, kpf, m⟩ := c.ex
  refine wpAny_Call_Name_kw (ld_blt I hg hm boot_sorted ?_ (by decide) (by decide))
  refine callWith_kw (thn (pa_cons he pa_nil hs pos pins s σ H (fun vs H1 => match vs with | [v] => SortK sp Q v H1 | _ => False) I h) fun us s1 ⟨vs, H1, I1, r, q1⟩ => ?_) (by rw [hs]; rfl) (by rw [hs]; rfl) rfl rfl
  refine thn (pk_cons (pe_glob (v := .ref f) hgy m rfl hdy) pk_nil pos pins s1 σ H1 (fun zs H2 => zs = [.ref f] ∧ H2 = H1) I1 ⟨rfl, rfl⟩) fun ws s2 ⟨zs, H2, I2, rz, ez, eh⟩ => ?_
  subst ez eh
  obtain ⟨u, rfl, ru⟩ := vals1 rz
  cases ru
  match vs, r, q1 with
  | [v], r, q1 =>
    obtain ⟨u, rfl, rv⟩ := vals1 r
    obtain ⟨l, xs, kz, rfl, hl, e1, e2, t, q⟩ := q1
    cases rv
    exact call_sortKey F b hr I2 hl e1 e2 t q
end L2

set_option maxHeartbeats 4000000
namespace K53
open PySem PySem.Spec PyProof.Rows L2 Pc K51 M54 M57
open M53 (IsLd vec V6 wl vec_bit ev Alike ldm)
theorem ps_never {X : Cx} {st : Stmt} : PS X st (fun _ _ _ => False) := fun _ _ _ _ _ _ h => h.elim
theorem Mks.zip {H : Hp} : ∀ {ps : List Addr} {ms : List Mk}, Mks H ps ms → (∀ t ∈ ps.zip ms, H t.1 = some (T3 t.2)) ∧ (ps.zip ms).map (·.1) = ps ∧ (ps.zip ms).map (·.2) = ms
  | [], [], .nil => ⟨fun _ h => (nomatch h), rfl, rfl⟩
  | p :: ps, m :: ms, .cons a r => by
    obtain ⟨h1, h2, h3⟩ := Mks.zip r
    rw [List.zip_cons_cons]
    refine ⟨fun t ht => ?_, by rw [List.map_cons, h2], by rw [List.map_cons, h3]⟩
    rcases List.mem_cons.mp ht with rfl | ht
    · exact a
    · exact h1 t ht
theorem Mks.ofzip {H : Hp} : ∀ {l : List (Addr × Mk)}, (∀ t ∈ l, H t.1 = some (T3 t.2)) → Mks H (l.map (·.1)) (l.map (·.2))
  | [], _ => .nil
  | t :: l, h => .cons (h t (.head _)) (Mks.ofzip fun u hu => h u (.tail _ hu))
theorem zipk : ∀ {ds : List Addr} {D : List Mk} {g : Mk → Int}, ds.length = D.length → (D.map g).zip (ds.map V.ref) = (ds.zip D).map fun t => (g t.2, V.ref t.1)
  | [], [], _, _ => rfl
  | d :: ds, m :: D, g, h => by
    simp only [List.map_cons, List.zip_cons_cons]
    rw [zipk (Nat.succ.inj h)]
def spReduced : Sp := fun vs H Q _ => ∃ (l : Addr) (ps : List Addr) (ms : List Mk) (N : Nat), vs = [.ref l, .int N] ∧ Tb3 N H l ps ms ∧ 1 ≤ N ∧ N ≤ 6 ∧
  ∀ (r : Addr) (H' : Hp) (qs : List Addr) (S : List Mk), Same H H' → H r = none → H' r = some (.lst (qs.map V.ref)) → Mks H' qs S → M53.Dm ms S → S.length = ms.length → S.Pairwise (fun a b => ldm a ≤ ldm b) → Q (.ref r) H'
section
variable {P : Program} {w : World} {K : PySem.W.Frag} {mg : Str → Option Value} {base : Heap} {k : Nat} {h : Heap}
def spCheckT : Sp := fun vs H Q _ => ∃ (l : Addr) (ps : List Addr) (ms : List Mk) (N : Nat), vs = [.ref l, .int N] ∧ Tb3 N H l ps ms ∧ 1 ≤ N ∧ N ≤ 6 ∧ ∀ H', Same H H' → Q .non H'
theorem sc_checkt : FnScope ["rows", "cells"] ["rows", "cells"] (defScope (top 23)) := ⟨rfl, rfl, rfl, by decide +kernel, rfl, by decide +kernel, by decide +kernel⟩
theorem ok_checkt (F : FunAt K "check_table" (top 23) .none) (X : K.In h) (G : h.Ns mainGlobals mg) (c_is_table : Cal P w K mg base k "is_table" ["rows", "cells"] spIsTable) : Cal P w K mg base (k + 1) "check_table" ["rows", "cells"] spCheckT := by
  have nd := sc_checkt.nd
  refine F.cal X G sc_checkt (bnd2 fun _ _ _ _ _ _ _ _ => rfl) (fun vs H Q E' h => ?_) (fun f cdv A outer s H vs Q E' hr h => ?_)
  · obtain ⟨l, ps, ms, N, rfl, _⟩ := h; rfl
  obtain ⟨l, ps, ms, N, rfl, T, N1, N6, kq⟩ := h
  refine ⟨_, (@pss_one _ _ _ (ps_if (pt_not (pt_val (pe_cal c_is_table hr rfl (pa_cons (pv 0) (pa_cons (pv 1) pa_nil)))))
      (@pss_one _ _ _ ps_never)
      pss_nil)), ?_⟩
  try dsimp only [cxK]
  exact ⟨_, rfl, _, rfl, l, ps, ms, N, rfl, T, N1, N6, fun H1 S1 => ⟨_, rfl, iteF (kq H1 S1)⟩⟩
theorem sc_reduced : FnScope ["rows", "cells", "done", "row", "fresh", "each"] ["rows", "cells"] (defScope (top 24)) := ⟨rfl, rfl, rfl, by decide +kernel, rfl, by decide +kernel, by decide +kernel⟩
theorem ok_reduced (F : FunAt K "reduced" (top 24) .none) (X : K.In h) (G : h.Ns mainGlobals mg) (B : Bs mg) (c_check_table : Cal P w K mg base (k + 2) "check_table" ["rows", "cells"] spCheckT) (c_without_lead : Cal P w K mg base (k + 2) "without_lead" ["mark", "row"] spWithout) (c_lead : Cal P w K mg base k "lead" ["mark"] (spLead K)) :
    Cal P w K mg base (k + 2 + 1) "reduced" ["rows", "cells"] spReduced := by
  have nd := sc_reduced.nd
  refine F.cal X G sc_reduced (bnd2 fun _ _ _ _ _ _ _ _ => rfl) (fun vs H Q E' h => ?_) (fun f cdv A outer s H vs Q E' hr h => ?_)
  · obtain ⟨l, ps, ms, N, rfl, _⟩ := h; rfl
  obtain ⟨l, ps, ms, N, rfl, T, N1, N6, kq⟩ := h
  have hS : SqL K H l (ps.map V.ref) := SqL.of T.lst
  have lps : (ps.map V.ref).length = ms.length := by rw [List.length_map, T.mks.length]
  have l6 := T.len
  refine ⟨_, (@pss_cons _ _ _ _ _ (ps_expr (pe_cal c_check_table hr rfl (pa_cons (pv 0) (pa_cons (pv 1) pa_nil))))
    (@pss_cons _ _ _ _ _ (@ps_set _ _ 2 _ _ _ _ nd rfl (Or.inl rfl) (@pe_lst _ _ _ _ pa_nil) rfl (.inl rfl))
    (@pss_cons _ _ _ _ _ (ps_for PassesOwn.never rfl (pi_list (pv 0)) (pg_name (i := 3) nd rfl (Or.inl rfl))
      (@pss_cons _ _ _ _ _ (@ps_set _ _ 4 _ _ _ _ nd rfl (Or.inr rfl) (pv 3) rfl (.inl rfl))
      (@pss_cons _ _ _ _ _ (ps_for PassesOwn.never rfl (pi_list (pv 2)) (pg_name (i := 5) nd rfl (Or.inl rfl))
        (@pss_one _ _ _ (@ps_set _ _ 4 _ _ _ _ nd rfl (Or.inr rfl) (pe_cal c_without_lead hr rfl (pa_cons (pv 4) (pa_cons (pv 5) pa_nil))) rfl (.inl rfl))))
      (@pss_one _ _ _ (@ps_set _ _ 2 _ _ _ _ nd rfl (Or.inl rfl) (pe_op op_cat (pe_lc rfl (LcOk.of (Nc := ["each", "fresh"]) (mp := [none, some 4]) (by kernel_rfl)) (pi_list (pv 2)) (fun _ _ _ _ => (pg_name (i := 0) (show (["each", "fresh"] : List Str).Nodup by decide +kernel) rfl (Or.inl rfl))) (fun _ _ _ _ => (pe_cal c_without_lead hr rfl (pa_cons (pv 0) (pa_cons (pv 1) pa_nil))))) (@pe_lst _ _ _ _ (pa_cons (pv 4) pa_nil))) rfl (.inl rfl))))))
    (@pss_one _ _ _ (ps_ret (pe_sortK c_lead hr rfl B.sorted rfl (pv 2))))))), ?_⟩
  try dsimp only [cxK]
  refine ⟨_, rfl, _, rfl, l, ps, ms, N, rfl, T, N1, N6, fun H1 S1 => ?_⟩
  refine ⟨by decide, fun l0 hl0 => ?_⟩
  have s1 := S1.trans (same_new hl0 (.lst []))
  refine ⟨_, rfl, l, rfl, ⟨_, s1.seq hS⟩, for_list (K := K) (a := l) (xs := ps.map V.ref) (fun i σ H' => Same H H' ∧ ∃ (ld : Addr) (ds : List Addr) (D : List Mk) (ls : List Nat) (v3 v4 v5 : Option V), H' ld = some (.lst (ds.map V.ref)) ∧ Mks H' ds D ∧ M53.Dn ms i D ls ∧ σ = [some (.ref l), some (.int N), some (.ref ld), v3, v4, v5])
    ⟨s1, l0, [], [], [], none, none, none, upd_same, .nil, M53.Dn.start ms, rfl⟩ (fun i σ H' _ e => e.1.seq hS) ?_ ?_⟩
  · rintro i x σ H2 hx ⟨S2, ld, ds, D, ls, v3, v4, v5, hld, hD, DN, rfl⟩
    have ilt : i < ms.length := by
      have := (List.getElem?_eq_some_iff.mp hx).1
      omega
    rw [List.getElem?_map] at hx
    obtain ⟨p, hp, rfl⟩ := Option.map_eq_some_iff.mp hx
    obtain ⟨row, hri, p0⟩ := T.mks.get hp
    have eg : ms.getD i (0, 0, 0) = row := by rw [List.getD_eq_getElem?_getD, hri]; rfl
    have lD := DN.len
    have lds := hD.length
    have lxs : (ds.map V.ref).length = i := by rw [List.length_map, lds, lD]
    have gD : ∀ d ∈ D, ev d ∧ V6 d := fun d hd => M53.G_ev T.tb (by omega) (DN.g d hd)
    have frs : ∀ t, t ≤ i → V6 (M53.fr D ls row t) := fun t ht => by
      have := (M53.G_ev T.tb (by omega) (M53.fr_ok T.tb ilt DN t ht).G).2
      rw [← eg]
      exact this
    refine ⟨_, rfl, ?_⟩
    refine ⟨_, rfl, ld, rfl, ⟨_, SqL.of hld⟩, for_list (K := K) (a := ld) (xs := ds.map V.ref) (fun t σ H' => Same H2 H' ∧ ∃ (pf : Addr) (v5 : Option V), H' pf = some (T3 (M53.fr D ls row t)) ∧ σ = [some (.ref l), some (.int N), some (.ref ld), some (.ref p), some (.ref pf), v5])
      ⟨Same.refl _, p, _, S2 _ _ p0, rfl⟩ (fun t σ H' _ e => SqL.of (e.1 _ _ hld)) ?_ ?_⟩
    · rintro t x σ H3 hx ⟨S3, pf, v5, hpf, rfl⟩
      have tlt : t < i := by
        have := (List.getElem?_eq_some_iff.mp hx).1
        omega
      rw [List.getElem?_map] at hx
      obtain ⟨q, hq, rfl⟩ := Option.map_eq_some_iff.mp hx
      obtain ⟨d, hdi, q0⟩ := hD.get hq
      have ed : D.getD t (0, 0, 0) = d := by rw [List.getD_eq_getElem?_getD, hdi]; rfl
      have L := DN.ld t tlt
      refine ⟨_, rfl, _, rfl, pf, q, M53.fr D ls row t, d, ls.getD t 0, rfl, hpf, S3 _ _ q0, frs t (by omega), (gD d (List.mem_of_getElem? hdi)).2, by rw [← ed]; exact L, fun r H4 S4 hr4 => ?_⟩
      rw [← ed] at hr4
      exact ⟨S3.trans S4, r, _, hr4, rfl⟩
    · rintro σ H3 ⟨S3, pf, v5, hpf, rfl⟩
      rw [lxs] at hpf
      have FR := M53.fr_ok T.tb ilt DN i (Nat.le_refl _)
      have v6f := frs i (Nat.le_refl _)
      rw [eg] at FR
      obtain ⟨n, _, L⟩ := M53.has_lead v6f (FR.nz T.tb ilt)
      have DX := DN.next T.tb ilt FR L
      generalize M53.fr D ls row i = fm at *
      refine ⟨_, rfl, ld, rfl, ⟨_, SqL.of (S3 _ _ hld)⟩, fun acc hacc => ?_⟩
      refine lc_list (K := K) (a := ld) (xs := ds.map V.ref) (fr := [some (.ref pf)]) (fun j ys H' => Same H3 H' ∧ H' acc = some (.lst ys) ∧ ∃ qs, ys = qs.map V.ref ∧ Mks H' qs ((D.take j).map fun d => wl d fm n)) (by rw [lxs]; exact s64 (by omega))
        ⟨same_new hacc _, upd_same, [], rfl, .nil⟩ (fun j ys H' e => SqL.of (e.1 _ _ (S3 _ _ hld))) ?_ ?_
      · rintro j x ys HA NN hx hl ⟨SA, cA, qs, rfl, mA⟩ kN
        rw [List.getElem?_map] at hx
        obtain ⟨q, hq, rfl⟩ := Option.map_eq_some_iff.mp hx
        obtain ⟨d, hdi, q0⟩ := hD.get hq
        refine ⟨_, rfl, _, rfl, q, pf, d, fm, n, rfl, SA _ _ (S3 _ _ q0), SA _ _ hpf, (gD d (List.mem_of_getElem? hdi)).2, v6f, L, fun r H4 S4 hr4 => ?_⟩
        have c4 := S4 _ _ cA
        refine kN _ _ c4 ⟨same_upd (SA.trans S4) hacc, upd_same, qs ++ [r], by rw [List.map_append]; rfl, ?_⟩
        rw [List.take_add_one, hdi, Option.toList_some, List.map_append]
        refine Mks.upd (Paired.snoc (mA.same S4) hr4) c4
      rintro ys HB hlB ⟨SB, cB, qs, rfl, mB⟩
      rw [lxs, List.take_of_length_le (by omega)] at mB
      refine ⟨_, rfl, s64 (by simp), fun l1 hl1 => ?_⟩
      have s5 := same_new hl1 (.lst [V.ref pf])
      have zq := mB.length
      rw [List.length_map] at zq
      refine ⟨acc, l1, _, _, rfl, rfl, s5 _ _ cB, upd_same, ?_, fun l2 hl2 => ?_⟩
      · rw [List.length_map, zq]
        exact s64 (by simp; omega)
      have s6 := same_new hl2 (.lst (qs.map V.ref ++ [V.ref pf]))
      have ss := (SB.trans s5).trans s6
      refine ⟨(S2.trans S3).trans ss, l2, qs ++ [pf], _, _, _, _, _, ?_, Paired.snoc (mB.same (s5.trans s6)) (ss _ _ hpf), DX, rfl⟩
      rw [upd_same, List.map_append]
      rfl
  · rintro σ H2 ⟨S2, ld, ds, D, ls, v3, v4, v5, hld, hD, DN, rfl⟩
    rw [lps] at DN
    have DM := DN.all
    have lD := DN.len
    have lds := hD.length
    refine ⟨_, rfl, ld, ds.map V.ref, D.map (fun d => (ldm d : Int)), rfl, hld, by rw [List.length_map, List.length_map]; omega, by rw [List.length_map]; omega, fun i x z hx hz => ?_, fun R qs hR pp po => ?_⟩
    · rw [List.getElem?_map] at hx hz
      obtain ⟨q, hq, rfl⟩ := Option.map_eq_some_iff.mp hx
      obtain ⟨d, hdi, rfl⟩ := Option.map_eq_some_iff.mp hz
      obtain ⟨d', hdi', q0⟩ := hD.get hq
      rw [hdi] at hdi'
      cases hdi'
      have mem := List.mem_of_getElem? hdi
      exact ⟨q, d, ldm d, rfl, SqT.of q0, (M53.G_ev T.tb (Nat.le_refl _) (DN.g d mem)).2, DM.ld d mem, rfl, rfl⟩
    · obtain ⟨z1, z2, z3⟩ := hD.zip
      obtain ⟨rl, pr, er⟩ := perm_map pp (zipk (g := fun d => (ldm d : Int)) lds)
      subst er
      have sR := same_new hR (.lst ((rl.map fun t : Addr × Mk => ((ldm t.2 : Int), V.ref t.1)).map (·.2)))
      have pD : (rl.map (·.2)).Perm D := by
        have := pr.map (·.2)
        rw [z3] at this
        exact this
      refine kq R _ (rl.map (·.1)) (rl.map (·.2)) (S2.trans sR) (S2.free hR) ?_ ((Mks.ofzip fun t ht => z1 t (pr.mem_iff.mp ht)).same sR) (DM.perm T.tb pD) (by rw [pD.length_eq, lD]) ?_
      · rw [upd_same, List.map_map, List.map_map]
        rfl
      · rw [List.pairwise_map] at po ⊢
        exact po.imp fun h => by omega
end
end K53

set_option maxHeartbeats 4000000
namespace K53
open PySem PySem.Spec PyProof.Rows L2 Pc K51 M54 M57
open M53 (IsLd vec V6 wl vec_bit ev Alike ldm)
theorem kk_inj {a b : Mk} (h : kk a = kk b) : a.2 = b.2 := by
  unfold kk at h
  injection h with h1 h2
  injection h2 with h2 _
  have h1 := Int.ofNat.inj (Sum.inl.inj h1)
  have h2 := Int.ofNat.inj (Sum.inl.inj h2)
  exact Prod.ext h1 h2
structure Full (ms : List Mk) (n : Nat) (kvs : List (List Key × V)) : Prop where
  has : ∀ x, x < 2 ^ n → valV kvs (kk (E ms x)) = some (.int (E ms x).1)
  only : ∀ key v, valV kvs key = some v → ∃ x, x < 2 ^ n ∧ key = kk (E ms x) ∧ v = .int (E ms x).1
structure Half (ms : List Mk) (i : Nat) (kvs kvs' : List (List Key × V)) (j : Nat) : Prop where
  has : ∀ x, x < 2 ^ i → valV kvs' (kk (E ms x)) = some (.int (E ms x).1)
  new : ∀ j', j' < j → ∀ kv, kvs[j']? = some kv → ∀ x, x < 2 ^ i → kv.1 = kk (E ms x) → valV kvs' (kk (E ms (x + 2 ^ i))) = some (.int (E ms (x + 2 ^ i)).1)
  only : ∀ key v, valV kvs' key = some v → ∃ x, x < 2 ^ (i + 1) ∧ key = kk (E ms x) ∧ v = .int (E ms x).1
theorem lt_up {x i : Nat} (h : x < 2 ^ i) : x < 2 ^ (i + 1) ∧ x + 2 ^ i < 2 ^ (i + 1) := by rw [Nat.pow_succ]; omega
theorem up_le {x i n : Nat} (h : x < 2 ^ (i + 1)) (hi : i < n) : x < 2 ^ n := Nat.lt_of_lt_of_le h (Nat.pow_le_pow_right (by decide) hi)
theorem Half.start {ms : List Mk} {i : Nat} {kvs : List (List Key × V)} (F : Full ms i kvs) : Half ms i kvs kvs 0 :=
  ⟨F.has, fun j' h => absurd h (Nat.not_lt_zero _), fun key v h => let ⟨x, a, b⟩ := F.only key v h; ⟨x, (lt_up a).1, b⟩⟩
theorem Half.next {ms : List Mk} {i : Nat} {kvs kvs' : List (List Key × V)} {j : Nat} (I : Indep ms) (hi : i < ms.length) (h : Half ms i kvs kvs' j) {kv : List Key × V} (hkv : kvs[j]? = some kv) {x : Nat} (hx : x < 2 ^ i) (e : kv.1 = kk (E ms x)) :
    Half ms i kvs (putK kvs' (kk (E ms (x + 2 ^ i))) (.int (E ms (x + 2 ^ i)).1)) (j + 1) := by
  have inj : ∀ {y z : Nat}, y < 2 ^ (i + 1) → z < 2 ^ (i + 1) → kk (E ms y) = kk (E ms z) → y = z := fun hy hz q => E_inj I (up_le hy hi) (up_le hz hi) (kk_inj q)
  refine ⟨fun y hy => ?_, fun j' hj kv' hkv' y hy ey => ?_, fun key v hv => ?_⟩
  · rw [valV_put, if_neg]
    · exact h.has y hy
    · intro q
      have := inj (lt_up hy).1 (lt_up hx).2 q
      omega
  · rw [valV_put]
    by_cases q : kk (E ms (y + 2 ^ i)) = kk (E ms (x + 2 ^ i))
    · rw [if_pos q]
      have := inj (lt_up hy).2 (lt_up hx).2 q
      rw [this]
    · rw [if_neg q]
      by_cases ej : j' = j
      · subst ej
        rw [hkv] at hkv'
        cases hkv'
        rw [e] at ey
        have := inj (lt_up hx).1 (lt_up hy).1 ey
        subst this
        exact absurd rfl q
      · exact h.new j' (by omega) kv' hkv' y hy ey
  · rw [valV_put] at hv
    by_cases q : key = kk (E ms (x + 2 ^ i))
    · rw [if_pos q] at hv
      exact ⟨x + 2 ^ i, (lt_up hx).2, q, (Option.some.inj hv).symm⟩
    · rw [if_neg q] at hv
      exact h.only key v hv
theorem val_mem {kvs : List (List Key × V)} {k : List Key} {v : V} (h : valV kvs k = some v) : ∃ kv ∈ kvs, kv.1 = k := by
  have a := valV_any k kvs
  rw [h, Option.isSome_some] at a
  obtain ⟨kv, m, e⟩ := List.any_eq_true.mp a
  exact ⟨kv, m, of_decide_eq_true e⟩
theorem mem_val {kvs : List (List Key × V)} {kv : List Key × V} (h : kv ∈ kvs) : ∃ v, valV kvs kv.1 = some v := by
  have a := valV_any kv.1 kvs
  rw [List.any_eq_true.mpr ⟨kv, h, decide_eq_true rfl⟩] at a
  exact Option.isSome_iff_exists.mp a.symm
theorem Half.done {ms : List Mk} {i : Nat} {kvs kvs' : List (List Key × V)} (F : Full ms i kvs) (h : Half ms i kvs kvs' kvs.length) : Full ms (i + 1) kvs' := by
  refine ⟨fun x hx => ?_, h.only⟩
  by_cases lo : x < 2 ^ i
  · exact h.has x lo
  · rw [Nat.pow_succ] at hx
    have hy : x - 2 ^ i < 2 ^ i := by omega
    obtain ⟨kv, m, e⟩ := val_mem (F.has _ hy)
    obtain ⟨j, hj, ej⟩ := List.mem_iff_getElem.mp m
    have := h.new j hj kv (by rw [List.getElem?_eq_getElem hj, ej]) _ hy e
    rw [show x - 2 ^ i + 2 ^ i = x by omega] at this
    exact this
theorem Full.start (ms : List Mk) : Full ms 0 [(kk (0, 0, 0), .int 0)] := by
  refine ⟨fun x hx => ?_, fun key v h => ?_⟩
  · have : x = 0 := by rw [Nat.pow_zero] at hx; omega
    subst this
    rw [E_zero, valV_pos rfl]
    rfl
  · refine ⟨0, by decide, ?_⟩
    by_cases e : kk (0, 0, 0) = key
    · rw [valV_pos e] at h
      rw [E_zero]
      exact ⟨e.symm, (Option.some.inj h).symm⟩
    · rw [valV_neg e] at h
      cases h
def SB (d : Addr) (H H' : Hp) : Prop := ∀ a o, a ≠ d → H a = some o → H' a = some o
theorem SB.refl (d : Addr) (H : Hp) : SB d H H := fun _ _ _ h => h
theorem keys_get {H : Hp} : ∀ {bs : List Addr} {kvs : List (List Key × V)} {j : Nat} {b : Addr}, Paired (fun b (kv : List Key × V) => H b = some (.tup (kv.1.map kV))) bs kvs → bs[j]? = some b → ∃ kv, kvs[j]? = some kv ∧ H b = some (.tup (kv.1.map kV))
  | b' :: bs, kv :: kvs, 0, b, .cons a r, h => by
    have : b' = b := by simpa using h
    subst this
    exact ⟨kv, rfl, a⟩
  | b' :: bs, kv :: kvs, j + 1, b, .cons a r, h => by
    obtain ⟨kv', m, q⟩ := keys_get (bs := bs) (kvs := kvs) (j := j) (b := b) r (by simpa using h)
    exact ⟨kv', m, q⟩
theorem Mks.sb {H H' : Hp} {d : Addr} {kvs : List (List Key × V)} {ps : List Addr} {ms : List Mk} (h : Mks H ps ms) (hd : H d = some (.dT kvs)) (s : SB d H H') : Mks H' ps ms := Paired.imp' (fun _ _ c => s _ _ (ne_of c hd (by intro z; cases z)) c) h
theorem E_app {ms : List Mk} {m : Mk} {x : Nat} (hx : x < 2 ^ ms.length) : E (ms ++ [m]) x = E ms x := by
  unfold E
  rw [List.length_append, show [m].length = 1 from rfl, chosen_low (ms ++ [m]) hx 1]
  congr 1
  unfold chosen
  refine List.map_congr_left fun p hp => ?_
  have := places_lt hp
  rw [List.getD_eq_getElem?_getD, List.getD_eq_getElem?_getD, List.getElem?_append_left this]
theorem Full.app {ms : List Mk} {m : Mk} {kvs : List (List Key × V)} (F : Full ms ms.length kvs) : Full (ms ++ [m]) ms.length kvs :=
  ⟨fun x hx => by rw [E_app hx]; exact F.has x hx, fun key v h => let ⟨x, a, b, c⟩ := F.only key v h; ⟨x, a, by rw [E_app a]; exact b, by rw [E_app a]; exact c⟩⟩
theorem okm_v6 {N : Nat} {m : Mk} (h : Okm N m) (hN : N ≤ 6) : V6 m := ⟨Nat.lt_of_lt_of_le h.f (Nat.pow_le_pow_right (by decide) hN), Nat.lt_of_lt_of_le h.s (Nat.pow_le_pow_right (by decide) hN)⟩
theorem cm_self (m : Mk) : M53.cm m m = 0 := by
  unfold M53.cm
  rw [Nat.and_comm m.2.2 m.2.1]
  omega
theorem tb_snoc {ms : List Mk} {m : Mk} {N : Nat} {kvs : List (List Key × V)} (T : M53.Tb ms) (hN : N ≤ 6) (ok : Okm N m) (e : ev m) (c : ∀ r ∈ ms, comm r m = 0) (F : Full ms ms.length kvs) (no : valV kvs (kk m) = none) : M53.Tb (ms ++ [m]) := by
  have cs : ∀ r ∈ ms, M53.cm r m = 0 := c
  refine ⟨⟨fun z hz => ?_, fun z hz => ?_, fun z hz y hy => ?_⟩, fun z hz => ?_, M53.indep_snoc T.ind fun x hx q => ?_⟩
  · rcases List.mem_append.mp hz with h | h
    · exact T.nice.q z h
    · rw [List.mem_singleton.mp h]; exact ok.q
  · rcases List.mem_append.mp hz with h | h
    · exact T.nice.even z h
    · rw [List.mem_singleton.mp h]; exact e
  · rcases List.mem_append.mp hz with h | h <;> rcases List.mem_append.mp hy with h' | h'
    · exact T.nice.com z h y h'
    · rw [List.mem_singleton.mp h']; exact cs z h
    · rw [List.mem_singleton.mp h, M53.cm_comm]; exact cs y h'
    · rw [List.mem_singleton.mp h, List.mem_singleton.mp h']; exact cm_self m
  · rcases List.mem_append.mp hz with h | h
    · exact T.v6 z h
    · rw [List.mem_singleton.mp h]; exact okm_v6 ok hN
  · have := F.has x hx
    rw [show kk (E ms x) = kk m by unfold kk; rw [q], no] at this
    cases this
def spTaken (K : PySem.W.Frag) : Sp := fun vs H Q _ => ∃ (l d pm : Addr) (ps : List Addr) (ms : List Mk) (kvs : List (List Key × V)) (m : Mk), vs = [.ref l, .ref d, .ref pm] ∧ SqL K H l (ps.map V.ref) ∧ Mks H ps ms ∧ H d = some (.dT kvs) ∧ H pm = some (T3 m) ∧
  ∀ (b : Bool) (H' : Hp), Same H H' → (b = true → (∀ r ∈ ms, comm r m = 0) ∧ valV kvs (kk m) = none) → Q (.bl b) H'
def spTable (K : PySem.W.Frag) : Sp := fun vs H Q _ => ∃ (la : Addr) (ns : List Int) (N : Nat) (mst : Int), vs = [.ref la, .int N, .int mst] ∧ SqL K H la (ns.map V.int) ∧ N ≤ 6 ∧ mst ≤ 6 ∧
  ∀ (r lr d : Addr) (H' : Hp) (ps : List Addr) (ms : List Mk) (kvs : List (List Key × V)), Same H H' → H' r = some (.lst [.ref lr, .ref d]) → Tb3 N H' lr ps ms → H' d = some (.dT kvs) → Full ms ms.length kvs → Q (.ref r) H'
section
variable {P : Program} {w : World} {K : PySem.W.Frag} {mg : Str → Option Value} {base : Heap} {k : Nat} {h : Heap}
theorem sc_taken : FnScope ["_law_rows", "_law_marks", "_law_mark", "_law_row"] ["_law_rows", "_law_marks", "_law_mark"] (defScope (top 40)) := ⟨rfl, rfl, rfl, by decide +kernel, rfl, by decide +kernel, by decide +kernel⟩
theorem ok_taken (F : FunAt K "_law_taken" (top 40) .none) (X : K.In h) (G : h.Ns mainGlobals mg) (c__law_commute : Cal P w K mg base k "_law_commute" ["_law_one", "_law_other_here"] (spCommute K)) : Cal P w K mg base (k + 1) "_law_taken" ["_law_rows", "_law_marks", "_law_mark"] (spTaken K) := by
  have nd := sc_taken.nd
  refine F.cal X G sc_taken (bnd3 fun _ _ _ _ _ _ _ _ _ => rfl) (fun vs H Q E' h => ?_) (fun f cdv A outer s H vs Q E' hr h => ?_)
  · obtain ⟨l, d, pm, ps, ms, kvs, m, rfl, _⟩ := h; rfl
  obtain ⟨l, d, pm, ps, ms, kvs, m, rfl, hS, hm, hd, hpm, kq⟩ := h
  have lps := hm.length
  refine ⟨_, (@pss_cons _ _ _ _ _ (ps_for PassesOwn.never rfl (pi_list (pv 0)) (pg_name (i := 3) nd rfl (Or.inl rfl))
      (@pss_one _ _ _ (ps_if (pt_not (pt_val (pe_cal c__law_commute hr rfl (pa_cons (pv 3) (pa_cons (pv 2) pa_nil)))))
        (@pss_one _ _ _ (ps_ret pe_bl))
        pss_nil)))
    (@pss_one _ _ _ (ps_ret (pe_cmp (pc_dnotin (hu_of hr) (@pe_tup _ _ _ _ _ (pa_cons (pe_ix ix_tup (pv 2) pe_int (fun _ _ => rfl)) (pa_cons (pe_ix ix_tup (pv 2) pe_int (fun _ _ => rfl)) pa_nil))) (pv 1)))))), ?_⟩
  try dsimp only [cxK]
  refine ⟨_, rfl, l, rfl, ⟨_, hS⟩, for_list (K := K) (a := l) (xs := ps.map V.ref) (fun i σ H' => H' = H ∧ (∀ r ∈ ms.take i, comm r m = 0) ∧ ∃ v, σ = [some (.ref l), some (.ref d), some (.ref pm), v]) ⟨rfl, by simp, none, rfl⟩ (fun i σ H' _ e => by rw [e.1]; exact hS) ?_ ?_⟩
  · rintro i x σ H1 hx ⟨rfl, ci, v, rfl⟩
    rw [List.getElem?_map] at hx
    obtain ⟨p', hp', rfl⟩ := Option.map_eq_some_iff.mp hx
    obtain ⟨m', hmi, hpm'⟩ := hm.get hp'
    refine ⟨_, rfl, _, rfl, p', pm, m', m, rfl, SqT.of hpm', SqT.of hpm, _, rfl, nblI (fun _ => kq _ _ (Same.refl _) fun z => nomatch z) (fun z => ⟨rfl, fun r hr => ?_, _, rfl⟩)⟩
    rw [List.take_add_one, hmi, Option.toList_some] at hr
    rcases List.mem_append.mp hr with h | h
    · exact ci r h
    · rw [List.mem_singleton.mp h]; exact of_decide_eq_true z
  · rintro σ H1 ⟨rfl, ci, v, rfl⟩
    rw [List.length_map, lps, List.take_length] at ci
    have S : SqT K H1 pm (L3 m) := SqT.of hpm
    refine ⟨_, rfl, pm, _, _, _, rfl, rfl, S, rfl, _, rfl, pm, _, _, _, rfl, rfl, S, rfl, t2, fun kt hkt => ?_⟩
    refine ⟨_, rfl, d, _, rfl, DGet.t (k := kk m) (same_new hkt _ _ _ hd) upd_same, kq _ _ (same_new hkt _) fun z => ⟨ci, ?_⟩⟩
    cases q : valV kvs (kk m) with
    | none => rfl
    | some v => rw [q] at z; cases z
theorem sc_table : FnScope ["_law_drawn", "_law_cells", "_law_most", "_law_rows", "_law_marks", "_law_cell", "_law_mark", "_law_f", "_law_s", "_law_made"] ["_law_drawn", "_law_cells", "_law_most"] (defScope (top 41)) := ⟨rfl, rfl, rfl, by decide +kernel, rfl, by decide +kernel, by decide +kernel⟩
theorem ok_table (F : FunAt K "_law_table" (top 41) .none) (X : K.In h) (G : h.Ns mainGlobals mg) (B : Bs mg) (c__law_even_mark : Cal P w K mg base k "_law_even_mark" ["_law_cell", "_law_cells"] spEvenMark) (c__law_taken : Cal P w K mg base k "_law_taken" ["_law_rows", "_law_marks", "_law_mark"] (spTaken K)) (c__law_product : Cal P w K mg base k "_law_product" ["_law_one", "_law_other_here"] (spProduct K)) :
    Cal P w K mg base (k + 1) "_law_table" ["_law_drawn", "_law_cells", "_law_most"] (spTable K) := by
  have nd := sc_table.nd
  refine F.cal X G sc_table (bnd3 fun _ _ _ _ _ _ _ _ _ => rfl) (fun vs H Q E' h => ?_) (fun f cdv A outer s H vs Q E' hr h => ?_)
  · obtain ⟨la, ns, N, mst, rfl, _⟩ := h; rfl
  obtain ⟨la, ns, N, mst, rfl, hS, hN, hM, kq⟩ := h
  refine ⟨_, (@pss_cons _ _ _ _ _ (@ps_set _ _ 3 _ _ _ _ nd rfl (Or.inl rfl) (@pe_lst _ _ _ _ pa_nil) rfl (.inl rfl))
    (@pss_cons _ _ _ _ _ (@ps_set _ _ 4 _ _ _ _ nd rfl (Or.inl rfl) (pe_dispT (hu_of hr) (@pe_tup _ _ _ _ _ (pa_cons pe_int (pa_cons pe_int pa_nil))) pe_int) rfl (.inl rfl))
    (@pss_cons _ _ _ _ _ (ps_for PassesOwn.never rfl (pi_list (pv 0)) (pg_name (i := 5) nd rfl (Or.inl rfl))
      (@pss_cons _ _ _ _ _ (@ps_set _ _ 6 _ _ _ _ nd rfl (Or.inl rfl) (pe_cal c__law_even_mark hr rfl (pa_cons (pv 5) (pa_cons (pv 1) pa_nil))) rfl (.inl rfl))
      (@pss_one _ _ _ (ps_if (PW.pt (pw_and (pt_cmpR op_lt (pe_callB call_len_seq rfl B.len PySem.boot_len (pa_cons (pv 3) pa_nil)) (pv 2) (nomark _)) (pw_and1 (pt_val (pe_cal c__law_taken hr rfl (pa_cons (pv 3) (pa_cons (pv 4) (pa_cons (pv 6) pa_nil))))))))
        (@pss_cons _ _ _ _ _ (ps_expr (pe_bm PySem.F.plainAttrs_list PySem.F.slot_list_append PySem.F.type_list_append mt_append (pv 3) (pa_cons (pv 6) pa_nil)))
        (@pss_one _ _ _ (ps_for PassesOwn.never rfl (pi_list (pe_callTy (call_listT rfl) rfl B.list boot_list (pa_cons (pv 4) pa_nil))) (@pg_tup _ _ _ _ _ _ rfl (@pgs_cons _ _ _ _ _ (@pg_name _ _ 7 _ nd rfl (Or.inl rfl) (by first | exact .inl rfl | exact .inr rfl)) (@pgs_cons _ _ _ _ _ (@pg_name _ _ 8 _ nd rfl (Or.inl rfl) (by first | exact .inl rfl | exact .inr rfl)) pgs_nil rfl) rfl) rfl rfl)
          (@pss_cons _ _ _ _ _ (@ps_set _ _ 9 _ _ _ _ nd rfl (Or.inl rfl) (pe_cal c__law_product hr rfl (pa_cons (@pe_tup _ _ _ _ _ (pa_cons (pe_dget (hu_of hr) (pv 4) (@pe_tup _ _ _ _ _ (pa_cons (pv 7) (pa_cons (pv 8) pa_nil))) (fun _ _ => rfl)) (pa_cons (pv 7) (pa_cons (pv 8) pa_nil)))) (pa_cons (pv 6) pa_nil))) rfl (.inl rfl))
          (@pss_one _ _ _ (ps_dput (hu_of hr) (pv 4) (@pe_tup _ _ _ _ _ (pa_cons (pe_ix ix_tup (pv 9) pe_int (fun _ _ => rfl)) (pa_cons (pe_ix ix_tup (pv 9) pe_int (fun _ _ => rfl)) pa_nil))) (pe_ix ix_tup (pv 9) pe_int (fun _ _ => rfl)) rfl))))))
        pss_nil))))
    (@pss_one _ _ _ (ps_ret (@pe_lst _ _ _ _ (pa_cons (pv 3) (pa_cons (pv 4) pa_nil)))))))), ?_⟩
  try dsimp only [cxK]
  refine ⟨s64 (by decide), fun lr hlr => ?_⟩
  have s1 := same_new hlr (.lst [])
  refine fun d hd => ⟨t2, fun kt hkt => ?_⟩
  have s2 := same_new hd (.dT [])
  have hd0 : H d = none := s1.free hd
  have s3 := same_new hkt (.tup [.int 0, .int 0])
  have ndl : lr ≠ d := fun z => by rw [← z, upd_same] at hd; cases hd
  refine ⟨s3 _ _ upd_same, kt, [Sum.inl 0, Sum.inl 0], _, rfl, upd_same, ?_⟩
  refine ⟨_, rfl, la, rfl, ⟨_, (same_upd ((s1.trans s2).trans s3) hd0).seq hS⟩, for_list (K := K) (a := la) (xs := ns.map V.int) (fun i σ H' => Same H H' ∧ ∃ (ps : List Addr) (ms : List Mk) (kvs : List (List Key × V)) (v5 v6 v7 v8 v9 : Option V), Tb3 N H' lr ps ms ∧ H' d = some (.dT kvs) ∧ Full ms ms.length kvs ∧ kvs.length ≤ 2 ^ ms.length ∧
    σ = [some (.ref la), some (.int N), some (.int mst), some (.ref lr), some (.ref d), v5, v6, v7, v8, v9]) ⟨same_upd ((s1.trans s2).trans s3) hd0, [], [], _, none, none, none, none, none, ⟨?_, .nil, (by simp), ⟨⟨by simp, by simp, by simp⟩, by simp, ?_⟩, (by decide)⟩, upd_same, Full.start [], (by decide), rfl⟩ (fun i σ H' _ e => e.1.seq hS) ?_ ?_⟩
  · rw [upd_ne ndl]
    exact s3 _ _ (s2 _ _ upd_same)
  · exact fun c _ hs j hj => absurd hj (Nat.not_lt_zero _)
  · rintro i x σ H1 hx ⟨S1, ps, ms, kvs, v5, v6, v7, v8, v9, T1, d1, FU, kl, rfl⟩
    rw [List.getElem?_map] at hx
    obtain ⟨c, hc, rfl⟩ := Option.map_eq_some_iff.mp hx
    have hlen := T1.mks.length
    have le6 := T1.len
    have lm : (ps.map V.ref).length = ms.length := by rw [List.length_map, hlen]
    refine ⟨_, rfl, _, rfl, c, N, rfl, hN, fun pm H2 m S2 hpm okm evm => ?_⟩
    have stay : ∀ {H' : Hp}, Same H2 H' → Same H H' ∧ ∃ (ps : List Addr) (ms : List Mk) (kvs : List (List Key × V)) (u5 u6 u7 u8 u9 : Option V), Tb3 N H' lr ps ms ∧ H' d = some (.dT kvs) ∧ Full ms ms.length kvs ∧ kvs.length ≤ 2 ^ ms.length ∧
        [some (V.ref la), some (V.int N), some (V.int mst), some (V.ref lr), some (V.ref d), some (V.int c), some (V.ref pm), v7, v8, v9] = [some (.ref la), some (.int N), some (.int mst), some (.ref lr), some (.ref d), u5, u6, u7, u8, u9] :=
      fun z => ⟨(S1.trans S2).trans z, ps, ms, kvs, _, _, _, _, _, T1.same (S2.trans z), z _ _ (S2 _ _ d1), FU, kl, rfl⟩
    refine ⟨_, rfl, lr, _, rfl, .inl (SqL.of (S2 _ _ T1.lst)), _, rfl, _, _, rfl, rfl, _, rfl, decI (fun lt => ?_) (fun _ => stay (Same.refl _))⟩
    rw [lm] at lt
    refine ⟨_, rfl, _, rfl, _, rfl, lr, d, pm, ps, ms, kvs, m, rfl, SqL.of (S2 _ _ T1.lst), T1.mks.same S2, S2 _ _ d1, hpm, fun b H3 S3 fits => ⟨_, rfl, blI (fun eb => ?_) (fun _ => stay S3)⟩⟩
    obtain ⟨com, no⟩ := fits eb
    have TB := tb_snoc T1.tb hN okm evm com FU no
    have FA := FU.app (m := m)
    have r3 := S3 _ _ (S2 _ _ T1.lst)
    have d3 := S3 _ _ (S2 _ _ d1)
    have p3 := S3 _ _ hpm
    have m3 := (T1.mks.same S2).same S3
    have hi : ms.length < (ms ++ [m]).length := by rw [List.length_append]; exact Nat.lt_succ_self _
    have em : (ms ++ [m]).getD ms.length (0, 0, 0) = m := M53.app_eq rfl
    have p64 : kvs.length ≤ 32 := Nat.le_trans kl (Nat.le_trans (Nat.pow_le_pow_right (by decide) (show ms.length ≤ 5 by omega)) (by decide))
    refine ⟨_, rfl, .inl ⟨rfl, _, SqL.of r3⟩, _, rfl, lr, _, _, rfl, rfl, r3, (by rw [lm]; exact Nat.lt_of_lt_of_le (show ms.length < 64 by omega) (by decide)), ?_⟩
    have d4 : upd H3 lr (.lst (ps.map V.ref ++ [.ref pm])) d = some (.dT kvs) := by rw [upd_ne (Ne.symm ndl)]; exact d3
    have p4 : upd H3 lr (.lst (ps.map V.ref ++ [.ref pm])) pm = some (T3 m) := by rw [upd_ne (ne_of p3 r3 (by intro z; cases z))]; exact p3
    have m4 := m3.upd (ys := ps.map V.ref ++ [.ref pm]) r3
    have r4 : upd H3 lr (.lst (ps.map V.ref ++ [.ref pm])) lr = some (.lst ((ps ++ [pm]).map V.ref)) := by rw [upd_same, List.map_append]; rfl
    have S4 : Same H (upd H3 lr (.lst (ps.map V.ref ++ [.ref pm]))) := same_upd ((S1.trans S2).trans S3) hlr
    generalize upd H3 lr (.lst (ps.map V.ref ++ [.ref pm])) = H4 at *
    refine ⟨_, rfl, d, kvs, rfl, d4, fun l2 bs hl2 hbs => ?_⟩
    have sl := same_new hl2 (.lst (bs.map V.ref))
    have nd2 : l2 ≠ d := fun z => by rw [z, d4] at hl2; cases hl2
    have hbl : bs.length = kvs.length := Paired.length hbs
    refine ⟨l2, rfl, ⟨_, SqL.of upd_same⟩, for_list (K := K) (a := l2) (xs := bs.map V.ref) (fun j σ H' => SB d (upd H4 l2 (.lst (bs.map V.ref))) H' ∧ ∃ (kvs' : List (List Key × V)) (v7 v8 v9 : Option V), H' d = some (.dT kvs') ∧ Half (ms ++ [m]) ms.length kvs kvs' j ∧ kvs'.length ≤ kvs.length + j ∧
      σ = [some (.ref la), some (.int N), some (.int mst), some (.ref lr), some (.ref d), some (.int c), some (.ref pm), v7, v8, v9]) ⟨SB.refl _ _, kvs, _, _, _, sl _ _ d4, Half.start FA, by omega, rfl⟩ (fun j σ H' _ e => SqL.of (e.1 _ _ nd2 upd_same)) ?_ ?_⟩
    · rintro j x σ H5 hx5 ⟨B5, kvs', w3, w4, w5, d5, HF, kl5, rfl⟩
      rw [List.getElem?_map] at hx5
      obtain ⟨b', hb', rfl⟩ := Option.map_eq_some_iff.mp hx5
      have jlt : j < bs.length := (List.getElem?_eq_some_iff.mp hb').1
      obtain ⟨kv, hkv, eb⟩ := keys_get hbs hb'
      obtain ⟨vv, hvv⟩ := mem_val (List.mem_of_getElem? hkv)
      obtain ⟨x, hx, ek, _⟩ := FA.only _ _ hvv
      have st := E_step (ms ++ [m]) hx hi
      rw [em] at st
      have nxt := HF.next TB.ind hi hkv hx ek
      have hv5 := HF.has x hx
      rw [ek] at eb
      generalize eX : E (ms ++ [m]) x = mx at *
      rw [st] at nxt
      have eb5 : H5 b' = some (.tup [.int mx.2.1, .int mx.2.2]) := B5 _ _ (ne_of eb d4 (by intro z; cases z)) (sl _ _ eb)
      have pm5 : H5 pm = some (T3 m) := B5 _ _ (ne_of p4 d4 (by intro z; cases z)) (sl _ _ p4)
      refine ⟨b', _, rfl, SqT.of eb5, rfl, _, _, rfl, _, _, rfl, rfl, ?_⟩
      refine ⟨_, rfl, _, rfl, _, rfl, t2, fun k1 hk1 => ?_⟩
      have sk1 := same_new hk1 (.tup [.int mx.2.1, .int mx.2.2])
      refine ⟨d, .int mx.1, rfl, ?_, _, rfl, _, rfl, t3, fun pt hpt => ?_⟩
      · rw [← hv5]
        exact DGet.t (k := kk mx) (sk1 _ _ d5) upd_same
      have spt := same_new hpt (T3 mx)
      refine ⟨_, rfl, pt, pm, mx, m, rfl, SqT.of upd_same, SqT.of (spt _ _ (sk1 _ _ pm5)), fun r H6 S6 hr => ?_⟩
      have SA := (sk1.trans spt).trans S6
      have d6 := SA _ _ d5
      have SR : SqT K H6 r (L3 (mul mx m)) := SqT.of hr
      refine ⟨_, rfl, r, _, _, _, rfl, rfl, SR, rfl, _, rfl, _, rfl, r, _, _, _, rfl, rfl, SR, rfl, _, rfl, r, _, _, _, rfl, rfl, SR, rfl, t2, fun k2 hk2 => ?_⟩
      have sk2 := same_new hk2 (.tup [.int (mul mx m).2.1, .int (mul mx m).2.2])
      refine ⟨d, _, rfl, DPut.t (k := kk (mul mx m)) (sk2 _ _ d6) upd_same (Nat.lt_of_lt_of_le (show kvs'.length < 129 by omega) (by decide)), fun a o na ha => ?_, _, _, _, _, upd_same, nxt, ?_, rfl⟩
      · rw [upd_ne na]
        exact sk2 _ _ (SA _ _ (B5 _ _ na ha))
      · have := length_putK kvs' (kk (mul mx m)) (V.int (mul mx m).1)
        exact Nat.le_trans this (by omega)
    · rintro σ H5 ⟨B5, kvs', w3, w4, w5, d5, HF, kl5, rfl⟩
      rw [List.length_map, hbl] at kl5 HF
      have keep : ∀ a o, a ≠ d → H4 a = some o → H5 a = some o := fun a o na ha => B5 a o na (sl _ _ ha)
      have FD := HF.done FA
      refine ⟨fun a o ha => keep a o (ne_of_none ha hd0) (S4 a o ha), ps ++ [pm], ms ++ [m], kvs', _, _, _, _, _, ⟨keep _ _ ndl r4, Mks.sb (Paired.snoc m4 p4) d4 keep, fun z hz => ?_, TB, ?_⟩, d5, ?_, ?_, rfl⟩
      · rcases List.mem_append.mp hz with q | q
        · exact T1.ok z q
        · rw [List.mem_singleton.mp q]; exact okm
      · rw [List.length_append]; simp; omega
      · rw [List.length_append]
        exact FD
      · rw [List.length_append, show ms.length + [m].length = ms.length + 1 from rfl, Nat.pow_succ]
        omega
  · rintro σ H1 ⟨S1, ps, ms, kvs, v5, v6, v7, v8, v9, T1, d1, FU, kl, rfl⟩
    refine ⟨_, rfl, _, rfl, t2, fun r hr => ?_⟩
    have sr := same_new hr (.lst [.ref lr, .ref d])
    exact kq r lr d _ ps ms kvs (S1.trans sr) upd_same (T1.same sr) (sr _ _ d1) FU
end
end K53

set_option maxHeartbeats 4000000
namespace K53
open PySem PySem.Spec PyProof.Rows L2 Pc K51 M54 M57
open M53 (IsLd vec V6 wl vec_bit ev Alike ldm)
def spLaw (K : PySem.W.Frag) (n : Nat) : Sp := fun vs H Q _ => ∃ (a : Addr) (ns : List Int), vs = [.ref a] ∧ SqL K H a (ns.map V.int) ∧ ns.length ≤ n ∧ ∀ H', Q (.bl true) H'
theorem six_pos : (0 : Int) < 6 := by decide
theorem seven_pos : (0 : Int) < 7 := by decide
theorem p9 : (0 : Int) < 10 ^ (9 : Int).toNat := by decide
theorem cp9 : CPow 10 9 := ⟨by decide, by decide, by decide⟩
theorem cut_ints (ns : List Int) (lo hi : Option Int) : ∃ ms : List Int, cutV (ns.map V.int) lo hi = ms.map V.int := by
  unfold cutV
  exact ⟨_, by rw [← List.map_drop, ← List.map_take]⟩
theorem shows {ms S : List Mk} {kvs : List (List Key × V)} (T : M53.Tb ms) (D : M53.Dm ms S) (o : S.Pairwise fun a b => ldm a ≤ ldm b) (F : Full ms ms.length kvs) (l6 : S.length ≤ 6) : Shows S kvs := by
  have R := D.red o
  refine ⟨fun m hm => ?_, fun m hm => M53.in_v6 T (D.g m hm), D.ld, fun i j hij hj => ?_, fun i j hi hj ne => ?_, l6⟩
  · obtain ⟨x, hx, e⟩ := D.g m hm
    have := F.has x hx
    rw [e] at this
    exact this
  · have hl : (S.map ldm).length = S.length := List.length_map _
    have := List.pairwise_iff_getElem.mp R.rise i j (by omega) (by omega) hij
    rw [← M53.lget0 S (by omega : i < S.length), ← M53.lget0 S hj, List.getD_eq_getElem?_getD, List.getD_eq_getElem?_getD, List.getElem?_eq_getElem (by omega), List.getElem?_eq_getElem (by omega)]
    exact this
  · have := R.off i j (by rw [List.length_map]; exact hi) (by rw [List.length_map]; exact hj) ne
    rw [M53.sget0, M53.lget0 S hj] at this
    exact this
section
variable {P : Program} {w : World} {K : PySem.W.Frag} {mg : Str → Option Value} {base : Heap} {k : Nat} {h : Heap}
theorem sc_law : FnScope ["_law_script", "_law_head", "_law_cells", "_law_rows", "_law_marks", "_law_others", "_law_kept", "_law_found", "_law_due", "_law_again"] ["_law_script"] (defScope (top 47)) := ⟨rfl, rfl, rfl, by decide +kernel, rfl, by decide +kernel, by decide +kernel⟩
theorem ok_law {n : Nat} (hn : n ≤ 100000) {f : Addr} {fd : FuncData} (F : Fun K "law" "law" (top 47) f fd) (B : Bs mg) (c__law_cell_at : Cal P w K mg base k "_law_cell_at" ["_law_script", "_law_k"] (spCell K))
    (c__law_table : Cal P w K mg base k "_law_table" ["_law_drawn", "_law_cells", "_law_most"] (spTable K)) (c__law_other : Cal P w K mg base k "_law_other" ["_law_rows", "_law_far"] spOther) (c_reduced : Cal P w K mg base k "reduced" ["rows", "cells"] spReduced)
    (c__law_shape : Cal P w K mg base k "_law_shape" ["_law_found", "_law_many"] spShape) (c__law_is_reduced : Cal P w K mg base k "_law_is_reduced" ["_law_found", "_law_marks"] spIsRed) : FnOk P w K mg base CX0 (k + 1) f fd ["_law_script"] (spLaw K n) := by
  have nd := sc_law.nd
  refine F.ok sc_law (fun vs H Q E' h => ?_) (fun cdv A outer s H vs Q E' hr h => ?_)
  · obtain ⟨a, ns, rfl, _⟩ := h; rfl
  obtain ⟨sa, ns, rfl, hS, h63, fin⟩ := h
  refine ⟨_, (@pss_cut _ _ _ _ _ (@ps_set _ _ 1 _ _ _ _ nd rfl (Or.inl rfl) (pe_cal c__law_cell_at hr rfl (pa_cons (pv 0) (pa_cons pe_int pa_nil))) rfl (.inl rfl))
    (@pss_cut _ _ _ _ _ (@ps_set _ _ 2 _ _ _ _ nd rfl (Or.inl rfl) (pe_op op_add pe_int (pe_op op_mod (pv 1) pe_int)) rfl (.inl rfl))
    (@pss_cons _ _ _ _ _ (ps_asg (pe_cal c__law_table hr rfl (pa_cons (pe_slice sl_list (pv 0) (po_some pe_int) (po_some pe_int)) (pa_cons (pv 2) (pa_cons (pe_op op_mod (pe_op op_fdiv (pv 1) pe_int) pe_int) pa_nil)))) (pg_lst rfl (pgs_cons (pg_name (i := 3) nd rfl (Or.inl rfl)) (pgs_cons (pg_name (i := 4) nd rfl (Or.inl rfl)) pgs_nil))))
    (@pss_cons _ _ _ _ _ (@ps_set _ _ 5 _ _ _ _ nd rfl (Or.inl rfl) (pe_cal c__law_other hr rfl (pa_cons (pv 3) (pa_cons (pe_op op_mod (pe_cal c__law_cell_at hr rfl (pa_cons (pv 0) (pa_cons pe_int pa_nil))) (pe_op op_pow pe_int pe_int)) pa_nil))) rfl (.inl rfl))
    (@pss_cons _ _ _ _ _ (@ps_set _ _ 6 _ _ _ _ nd rfl (Or.inl rfl) (@pe_lst _ _ _ _ (pa_cons (pe_callTy call_list_of rfl B.list boot_list (pa_cons (pv 3) pa_nil)) (pa_cons (pe_callTy call_list_of rfl B.list boot_list (pa_cons (pv 5) pa_nil)) pa_nil))) rfl (.inl rfl))
    (@pss_cons _ _ _ _ _ (@ps_set _ _ 7 _ _ _ _ nd rfl (Or.inl rfl) (pe_cal c_reduced hr rfl (pa_cons (pv 3) (pa_cons (pv 2) pa_nil))) rfl (.inl rfl))
    (@pss_cons _ _ _ _ _ (ps_if (PW.pt (pw_or (pt_not (pt_val (pe_cal c__law_shape hr rfl (pa_cons (pv 7) (pa_cons (pe_callB call_len_seq rfl B.len PySem.boot_len (pa_cons (pe_ix ix_list (pv 6) pe_int (fun _ _ => rfl)) pa_nil)) pa_nil))))) (pw_or1 (pt_not (pt_val (pe_cal c__law_is_reduced hr rfl (pa_cons (pv 7) (pa_cons (pv 4) pa_nil))))))))
      (@pss_one _ _ _ (ps_ret pe_bl))
      pss_nil)
    (@pss_cons _ _ _ _ _ (@ps_set _ _ 8 _ _ _ _ nd rfl (Or.inl rfl) (pe_callTy call_list_of rfl B.list boot_list (pa_cons (pv 7) pa_nil)) rfl (.inl rfl))
    (@pss_cons _ _ _ _ _ (ps_expr (pe_bm PySem.F.plainAttrs_list PySem.F.slot_list_append PySem.F.type_list_append mt_append (pv 7) (pa_cons pe_int pa_nil)))
    (@pss_cons _ _ _ _ _ (@ps_set _ _ 9 _ _ _ _ nd rfl (Or.inl rfl) (pe_cal c_reduced hr rfl (pa_cons (pv 5) (pa_cons (pv 2) pa_nil))) rfl (.inl rfl))
    (@pss_cons _ _ _ _ _ (ps_if (PW.pt (pw_or (pt_not (pt_val (pe_cal c__law_shape hr rfl (pa_cons (pv 9) (pa_cons (pe_callB call_len_seq rfl B.len PySem.boot_len (pa_cons (pv 8) pa_nil)) pa_nil))))) (pw_or1 (pt_cmpR (op_neLT hr.units) (pv 9) (pv 8) (nomark _)))))
      (@pss_one _ _ _ (ps_ret pe_bl))
      pss_nil)
    (@pss_one _ _ _ (ps_ret (pe_and (pe_cmpR (op_eqLT hr.units) (pv 3) (pe_ix ix_list (pv 6) pe_int (fun _ _ => rfl)) (nomark _)) (pe_and (pe_cmpR (op_eqLT hr.units) (pv 5) (pe_ix ix_list (pv 6) pe_int (fun _ _ => rfl)) (nomark _)) (pe_one (pe_cmpR (op_eqLT hr.units) (pe_cal c_reduced hr rfl (pa_cons (pv 3) (pa_cons (pv 2) pa_nil))) (pv 8) (nomark _)))))))))))))))))), ?_⟩
  try dsimp only [cxK]
  refine ⟨fun σ H' => H' = H ∧ ∃ hd : Int, σ = [some (.ref sa), some (.int hd), none, none, none, none, none, none, none, none], ?_, ?_⟩
  · exact ⟨_, rfl, sa, ns, _, rfl, hS, by omega, rfl, _, rfl⟩
  rintro σ1 H1 ⟨rfl, hd, rfl⟩
  refine ⟨fun σ H' => H' = H1 ∧ ∃ N : Nat, 1 ≤ N ∧ N ≤ 6 ∧ σ = [some (.ref sa), some (.int hd), some (.int N), none, none, none, none, none, none, none], ?_, ?_⟩
  · refine ⟨_, rfl, _, _, rfl, rfl, six_pos, _, _, rfl, rfl, rfl, (1 + hd % 6).toNat, by omega, by omega, ?_⟩
    show [_, _, some (V.int (1 + hd % 6)), _, _, _, _, _, _, _] = _
    rw [show (((1 + hd % 6).toNat : Nat) : Int) = 1 + hd % 6 by omega]
  rintro σ2 H2 ⟨rfl, N, N1, N6, rfl⟩
  have m7 := Int.emod_lt_of_pos (hd / 6) seven_pos
  obtain ⟨dr, edr⟩ := cut_ints ns (some 3) (some 63)
  refine ⟨_, rfl, _, rfl, _, rfl, sa, _, rfl, hS, fun c1 hc1 => ?_⟩
  rw [edr]
  have s1 := same_new hc1 (.lst (dr.map V.int))
  refine ⟨_, rfl, _, rfl, _, _, rfl, rfl, ⟨by decide, by decide⟩, _, _, rfl, rfl, seven_pos, c1, dr, N, _, rfl, SqL.of upd_same, N6, by omega, fun rp lr d H3 ps ms kvs S3 hrp T3' hd3 FU => ?_⟩
  have S03 := s1.trans S3
  refine ⟨rp, _, rfl, SqL.of hrp, rfl, _, _, rfl, _, _, rfl, rfl, ?_⟩
  obtain ⟨far, hfar⟩ := nat_of (Int.emod_nonneg (cell ns 1) (Int.ne_of_gt p9))
  have hv : V.int (cell ns 1 % 10 ^ (9 : Int).toNat) = V.int far := by rw [hfar]
  refine ⟨_, rfl, _, rfl, sa, ns, _, rfl, S03.seq hS, by omega, _, _, rfl, rfl, cp9, _, _, rfl, rfl, p9, lr, ps, ms, N, far, congrArg (fun z => [V.ref lr, z]) hv, T3', fun lo H4 qs rs S4 T4 AL lrs => ?_⟩
  have TA4 := T3'.same S4
  have lenA := TA4.len
  refine ⟨_, rfl, lr, _, rfl, .inl (SqL.of TA4.lst), fun k1 hk1 => ?_⟩
  have sk1 := same_new hk1 (.lst (ps.map V.ref))
  refine ⟨_, rfl, lo, _, rfl, .inl (SqL.of (sk1 _ _ T4.lst)), fun k2 hk2 => ⟨t2, fun kp hkp => ?_⟩⟩
  have sk2 := same_new hk2 (.lst (qs.map V.ref))
  have skp := same_new hkp (.lst [.ref k1, .ref k2])
  have a1 := skp _ _ (sk2 _ _ (upd_same (H := H4) (a := k1) (o := .lst (ps.map V.ref))))
  have a2 := skp _ _ (upd_same (H := upd H4 k1 (.lst (ps.map V.ref))) (a := k2) (o := .lst (qs.map V.ref)))
  have ap := upd_same (H := upd (upd H4 k1 (.lst (ps.map V.ref))) k2 (.lst (qs.map V.ref))) (a := kp) (o := .lst [.ref k1, .ref k2])
  have S5 := (sk1.trans sk2).trans skp
  have TA5 := TA4.same S5
  have TB5 := T4.same S5
  have hd5 := S5 _ _ (S4 _ _ hd3)
  generalize upd (upd (upd H4 k1 (.lst (ps.map V.ref))) k2 (.lst (qs.map V.ref))) kp (.lst [.ref k1, .ref k2]) = H5 at *
  refine ⟨_, rfl, _, rfl, lr, ps, ms, N, rfl, TA5, N1, N6, fun fo H6 fs S S6 hfo hf6 mS DS lS oS => ?_⟩
  have lps : (ps.map V.ref).length = S.length := by rw [List.length_map, TA5.mks.length, lS]
  refine ⟨_, rfl, _, rfl, kp, _, _, _, rfl, rfl, SqL.of (S6 _ _ ap), rfl, k1, _, rfl, .inl (SqL.of (S6 _ _ a1)), fo, fs, S, congrArg (fun z : Nat => [V.ref fo, V.int z]) lps, hf6, mS, _, rfl, iteF ?_⟩
  refine ⟨_, rfl, _, rfl, fo, d, fs, S, kvs, rfl, hf6, mS, S6 _ _ hd5, shows TA5.tb DS oS FU (by omega), fun H7 S7 => ⟨_, rfl, iteF ?_⟩⟩
  have f7 := S7 _ _ hf6
  refine ⟨_, rfl, fo, _, rfl, .inl (SqL.of f7), fun du hdu => ?_⟩
  have sd := same_new hdu (.lst (fs.map V.ref))
  have f8 := sd _ _ f7
  have nfd : du ≠ fo := fun z => by rw [z, f7] at hdu; cases hdu
  have u8 := upd_same (H := H7) (a := du) (o := .lst (fs.map V.ref))
  have S58 := (S6.trans S7).trans sd
  have m8 := (mS.same S7).same sd
  generalize upd H7 du (.lst (fs.map V.ref)) = H8 at *
  have lfs := mS.length
  refine ⟨_, rfl, .inl ⟨rfl, _, SqL.of f8⟩, fo, _, _, rfl, rfl, f8, (by rw [List.length_map]; exact Nat.lt_of_lt_of_le (show fs.length < 64 by omega) (by decide)), ?_⟩
  have S9 : Same H5 (upd H8 fo (.lst (fs.map V.ref ++ [.int 5]))) := same_upd S58 hfo
  have u9 : upd H8 fo (.lst (fs.map V.ref ++ [.int 5])) du = some (.lst (fs.map V.ref)) := by rw [upd_ne nfd]; exact u8
  have m9 := m8.upd (ys := fs.map V.ref ++ [.int 5]) f8
  generalize upd H8 fo (.lst (fs.map V.ref ++ [.int 5])) = H9 at *
  have TA9 := TA5.same S9
  have TB9 := TB5.same S9
  refine ⟨_, rfl, _, rfl, lo, qs, rs, N, rfl, TB9, N1, N6, fun ag H10 gs R S10 _ hg mR DR lR oR => ?_⟩
  have eSR : S = R := M53.reduced_uniq TA9.tb TB9.tb DS DR oS oR AL.to AL.fro
  have ldu : (fs.map V.ref).length = R.length := by rw [List.length_map, lfs, eSR]
  refine ⟨_, rfl, _, rfl, du, _, rfl, .inl (SqL.of (S10 _ _ u9)), ag, gs, R, congrArg (fun z : Nat => [V.ref ag, V.int z]) ldu, hg, mR, _, rfl, iteF ?_⟩
  refine ⟨_, rfl, _, rfl, ag, du, gs, fs, _, _, rfl, rfl, hg, S10 _ _ u9, mR.rows, (m9.same S10).rows, _, rfl, nblI (fun z => absurd z (by rw [eSR, decide_eq_true rfl]; decide)) (fun _ => ?_)⟩
  have bp := S10 _ _ (S9 _ _ ap)
  have b1 := S10 _ _ (S9 _ _ a1)
  have b2 := S10 _ _ (S9 _ _ a2)
  have TA10 := TA9.same S10
  have TB10 := TB9.same S10
  refine ⟨_, rfl, _, rfl, kp, _, _, _, rfl, rfl, SqL.of bp, rfl, lr, k1, ps, ps, _, _, rfl, rfl, TA10.lst, b1, TA10.mks.rows, TA10.mks.rows, _, rfl, blI (fun _ => ?_) (fun z => absurd z (by rw [decide_eq_true rfl]; decide))⟩
  refine ⟨_, rfl, _, rfl, kp, _, _, _, rfl, rfl, SqL.of bp, rfl, lo, k2, qs, qs, _, _, rfl, rfl, TB10.lst, b2, TB10.mks.rows, TB10.mks.rows, _, rfl, blI (fun _ => ?_) (fun z => absurd z (by rw [decide_eq_true rfl]; decide))⟩
  refine ⟨_, rfl, _, rfl, lr, ps, ms, N, rfl, TA10, N1, N6, fun la H11 hs L S11 _ hl mL DL lL oL => ?_⟩
  have eSL : S = L := M53.reduced_uniq TA10.tb TA10.tb DS DL oS oL (Alike.refl TA10.tb).to (Alike.refl TA10.tb).fro
  refine ⟨_, rfl, la, du, hs, fs, _, _, rfl, rfl, hl, S11 _ _ (S10 _ _ u9), mL.rows, ((m9.same S10).same S11).rows, ?_⟩
  rw [eSL]
  show Q (.bl (decide (_ = _))) H11
  rw [decide_eq_true rfl]
  exact fin _
end
end K53

noncomputable section
namespace K53
open PySem PySem.Spec PyProof.Rows L2
theorem all_mk {l : PySem.W.OpenLaw} {w : World} {K : PySem.W.Frag} {h : Heap} {mg : Str → Option Value} {fa f : Addr} (X : K.In h) (G : h.Ns mainGlobals mg) (hfa : mg "law" = some (.ref fa))
    {od an : Option Addr} {sl : Array (Option Value)} {oc kV dc pm cd ct : Value} {aP : Addr} {odP : Option Addr} {slP : Array (Option Value)} {nP : Nat} {d0 d1 d2 tF : Tok}
    (aL : PySem.W.nsIn K mainGlobals "law" = some (some (.ref f))) (lL : K.lookup f = some ⟨oc, od, .func (PySem.W.fnOf "law" "law" (defArgs (top 47)) (defBody (top 47)) (defScope (top 47)) .none kV dc pm an cd ct), sl⟩) (cL : PySem.W.codeIn K cd "law" = true) (kL : PySem.W.keepIn K (.ref f) = true)
    (t4 : FunAt K "is_whole" (top 4) .none)
    (t6 : FunAt K "ones" (top 6) .none)
    (t7 : FunAt K "is_word" (top 7) .none)
    (t8 : FunAt K "is_mark" (top 8) .none)
    (t9 : FunAt K "is_even" (top 9) .none)
    (t10 : FunAt K "is_even_mark" (top 10) .none)
    (t11 : FunAt K "commute" (top 11) .none)
    (t12 : FunAt K "product" (top 12) .none)
    (t14 : FunAt K "solved" (top 14) .none)
    (t15 : FunAt K "cleared" (top 15) .none)
    (t16 : FunAt K "places_at_one" (top 16) .none)
    (t17 : FunAt K "solution" (top 17) .none)
    (t21 : FunAt K "is_table" (top 21) .none)
    (t22 : FunAt K "commutes_with_all" (top 22) .none)
    (t23 : FunAt K "check_table" (top 23) .none)
    (t24 : FunAt K "reduced" (top 24) .none)
    (t25 : FunAt K "without_lead" (top 25) .none)
    (t26 : FunAt K "lead" (top 26) .none)
    (t27 : FunAt K "least_cell" (top 27) .none)
    (t28 : FunAt K "has_at_lead" (top 28) .none)
    (t29 : FunAt K "made_of" (top 29) .none)
    (t30 : FunAt K "rows_with" (top 30) .none)
    (t31 : FunAt K "product_of" (top 31) .none)
    (t32 : FunAt K "apart_by" (top 32) .none)
    (t34 : FunAt K "_law_cell_at" (top 34) .none)
    (t35 : FunAt K "_law_whole" (top 35) .none)
    (t36 : FunAt K "_law_ones" (top 36) .none)
    (t37 : FunAt K "_law_product" (top 37) .none)
    (t38 : FunAt K "_law_commute" (top 38) .none)
    (t39 : FunAt K "_law_even_mark" (top 39) .none)
    (t40 : FunAt K "_law_taken" (top 40) .none)
    (t41 : FunAt K "_law_table" (top 41) .none)
    (t42 : FunAt K "_law_other" (top 42) .none)
    (t43 : FunAt K "_law_lead" (top 43) .none)
    (t44 : FunAt K "_law_has" (top 44) .none)
    (t45 : FunAt K "_law_shape" (top 45) .none)
    (t46 : FunAt K "_law_is_reduced" (top 46) .none)
    (z0 : PySem.W.nsIn K mainGlobals "isinstance" = some none)
    (z1 : PySem.W.nsIn K mainGlobals "int" = some none)
    (z2 : PySem.W.nsIn K mainGlobals "bool" = some none)
    (z3 : PySem.W.nsIn K mainGlobals "tuple" = some none)
    (z4 : PySem.W.nsIn K mainGlobals "list" = some none)
    (z5 : PySem.W.nsIn K mainGlobals "len" = some none)
    (z6 : PySem.W.nsIn K mainGlobals "range" = some none)
    (z7 : PySem.W.nsIn K mainGlobals "enumerate" = some none)
    (z8 : PySem.W.nsIn K mainGlobals "sorted" = some none)
    (z9 : PySem.W.nsIn K mainGlobals "sum" = some none)
    (z10 : PySem.W.nsIn K mainGlobals "str" = some none)
    (z11 : PySem.W.nsIn K mainGlobals "all" = some none)
    (z12 : PySem.W.nsIn K mainGlobals "any" = some none)
    (z13 : PySem.W.nsIn K mainGlobals "min" = some none)
    (z14 : PySem.W.nsIn K mainGlobals "max" = some none)
    (gP0 : PySem.W.nsIn K mainGlobals "PRODUCT_OF_NONE" = some (some (.ref aP)))
    (tP : K.lookup aP = some ⟨.type "tuple", odP, .seq #[.int 0 d0, .int 0 d1, .int 0 d2] nP, slP⟩)
    (gF0 : PySem.W.nsIn K mainGlobals "FIRST_SIGN_LEAD" = some (some (.int 6 tF)))
    : ∃ fd : FuncData, (∀ (s : Shared) (v : Value), BindsTo s fd ⟨[v], []⟩ [("_law_script", v)]) ∧ ∀ base : Heap, K.In base → base.Ns mainGlobals mg → FnOk l.prog w K mg base CX0 8 fa fd ["_law_script"] (spLaw K 63) := by
  have e := hfa.symm.trans (PySem.W.mg_of X G aL)
  cases e
  have F := fun_mk (st := top 47) lL cL kL
  have B : Bs mg := ⟨PySem.W.mg_none_of X G z0, PySem.W.mg_none_of X G z1, PySem.W.mg_none_of X G z2, PySem.W.mg_none_of X G z3, PySem.W.mg_none_of X G z4, PySem.W.mg_none_of X G z5, PySem.W.mg_none_of X G z6, PySem.W.mg_none_of X G z7, PySem.W.mg_none_of X G z8, PySem.W.mg_none_of X G z9, PySem.W.mg_none_of X G z10, PySem.W.mg_none_of X G z11, PySem.W.mg_none_of X G z12, PySem.W.mg_none_of X G z13, PySem.W.mg_none_of X G z14⟩
  refine ⟨PySem.W.fnOf "law" "law" (defArgs (top 47)) (defBody (top 47)) (defScope (top 47)) .none kV dc pm an cd ct, fun s v => .of_eq rfl, fun base _ _ => ?_⟩
  have gP := PySem.W.mg_of X G gP0
  have gF := PySem.W.mg_of X G gF0
  have sP : ∀ H : Hp, SqT K H aP (L3 (0, 0, 0)) := fun H => .inr ⟨_, _, _, tP, rfl, rfl, (by show 3 ≤ sizeLine; decide), .cons ⟨_, rfl⟩ (.cons ⟨_, rfl⟩ (.cons ⟨_, rfl⟩ .nil))⟩
  have c6 := ok_ones (P := l.prog) (w := w) (base := base) (k := 0) t6 X G
  have c12 := ok_product t12 X G c6
  have c15 := ok_cleared (P := l.prog) (w := w) (base := base) (k := 0) t15 X G
  have c16 := ok_places (P := l.prog) (w := w) (base := base) (k := 0) t16 X G B
  have c17 := ok_solution t17 X G B c6
  have c14 := ok_solved (k := 2) t14 X G B (c15.mono (by decide)) (c16.mono (by decide)) c17
  have c30 := ok_rowswith (P := l.prog) (w := w) (base := base) (k := 0) t30 X G B
  have c31 := ok_prodof t31 X G gP sP c12
  have c32 := ok_apart t32 X G B c6
  have c29 := ok_madeof (k := 3) t29 X G B (c30.mono (by decide)) c14 (c32.mono (by decide)) c31
  have c27 := ok_least (P := l.prog) (w := w) (base := base) (k := 0) t27 X G
  have c26 := ok_lead t26 X G gF c27
  have c28 := ok_has (P := l.prog) (w := w) (base := base) (k := 0) t28 X G gF
  have c25 := ok_without (k := 2) t25 X G (c28.mono (by decide)) c26 c12
  have c4 := ok_iswhole (P := l.prog) (w := w) (base := base) (k := 0) t4 X G B
  have c7 := ok_isword t7 X G c4
  have c8 := ok_ismark (k := 2) t8 X G B (c4.mono (by decide)) c7
  have c9 := ok_iseven t9 X G c6
  have c10 := ok_isevm (k := 3) t10 X G c8 (c9.mono (by decide))
  have c11 := ok_pcommute t11 X G c6
  have c22 := ok_comall t22 X G B c11
  have c21 := ok_istable (k := 4) t21 X G B (c4.mono (by decide)) c10 (c22.mono (by decide)) c29
  have c23 := ok_checkt t23 X G c21
  have c24 := ok_reduced (k := 4) t24 X G B c23 (c25.mono (by decide)) (c26.mono (by decide))
  have c34 := ok_cell (P := l.prog) (w := w) (base := base) (k := 0) t34 X G B
  have c35 := ok_whole (P := l.prog) (w := w) (base := base) (k := 0) t35 X G B
  have c36 := ok_lones (P := l.prog) (w := w) (base := base) (k := 0) t36 X G
  have c37 := ok_lproduct t37 X G c36
  have c38 := ok_commute t38 X G c36
  have c39 := ok_evenmark t39 X G c36
  have c40 := ok_taken t40 X G c38
  have c41 := ok_table (k := 3) t41 X G B (c39.mono (by decide)) c40 (c37.mono (by decide))
  have c42 := ok_other (k := 2) t42 X G B c37
  have c43 := ok_llead (P := l.prog) (w := w) (base := base) (k := 0) t43 X G B
  have c44 := ok_lhas (P := l.prog) (w := w) (base := base) (k := 0) t44 X G
  have c45 := ok_shape t45 X G B c35
  have c46 := ok_isred t46 X G B c43 c44
  exact ok_law (k := 7) (by decide) F B (c34.mono (by decide)) (c41.mono (by decide)) (c42.mono (by decide)) (c24.mono (by decide)) (c45.mono (by decide)) (c46.mono (by decide))
theorem walk {l : PySem.W.OpenLaw} {q : Program} {loose : List Str} {XP : (Str → Option Value) → Heap → Prop} {YP : World → Heap → Prop} {d : DefRec} {K : Params → PySem.W.Frag} (hn : l.most = some 63) (hdf : d.params.defaults = [])
    (hY : ∀ (w : World) (h : Heap), YP w h → (K w.params).In h)
    (F : ∀ (w : World) (mg : Str → Option Value) (fa : Addr) (h : Heap), (K w.params).In h → h.Ns mainGlobals mg → mg d.name = some (.ref fa) →
      ∃ fd : FuncData, (∀ (s : Shared) (u : Value), BindsTo s fd ⟨[u], []⟩ [("_law_script", u)]) ∧ ∀ base : Heap, (K w.params).In base → base.Ns mainGlobals mg → FnOk l.prog w (K w.params) mg base CX0 8 fa fd ["_law_script"] (spLaw (K w.params) 63)) :
    PySem.W.WalkO q loose XP YP l.row.toRowW d [] (fun f vs => PySem.call f vs) :=
  L2.walk_of (n := 63) (k := 8) (x := "_law_script") (CX := fun _ => CX0) (sp := fun w => spLaw (K w.params) 63) hn (by decide) hdf ⟨rfl, by decide, by decide⟩ hY F (fun _ _ a ns hl lt hS => ⟨a, ns, rfl, hS, hl, fun _ => rfl⟩) fun _ _ _ _ _ z => z
/-! ### the top, run piece by piece: what stands in the heap behind each -/
namespace Hd
open PySem.W
set_option maxHeartbeats 0
abbrev pr : Program := PySem.Challenge.pw_spinboard_k53_reduced
abbrev kh := PyData.keyHash
def dPos (s : Stmt) : Pos := match s with
  | .FunctionDef _ _ _ _ _ _ _ _ _ p => p
  | _ => ⟨0, 0, 0, 0⟩
def life : Life := (Life.mk [] [] [] 0 [] [] false #[] [] 0 false false false 0 [2000, 10, 10] false 0 true [] [] 0 false)
def en : Env := { scope := pr.main.scope, locals := mainNs, globals := mainNs, cells := [], code := (.ref 13), frame := some 14 }
def o11_0 (P : Params) : Obj := (Obj.mk (.type "tuple") none (Data.seq #[] 0) #[])
def o12_0 (P : Params) : Obj := (Obj.mk .none none (Data.fields #[]) #[])
def o13_0 (P : Params) : Obj := (Obj.mk (.type "code") none (Data.fields #[(.str "<module>" 182), (.str "<module>" 183), (.str "/claim/cut.py" 184), (.int 1 0), (.int 0 0), (.int 0 0), (.int 0 0), (.int 0 0), (.ref 11), (.bool false), (.int 181 0), (.ref 12), .none, .none, .none, .none, (.int 185 0), (.int 1 0), (.str "/claim/cut.py" 186)]) #[])
def o14_0 (P : Params) : Obj := (Obj.mk (.type "frame") none Data.plain #[(some (.ref 13)), (some (.ref 3)), (some (.ref 3)), none, (some (.str "__main__" 164)), none, (some (.ref 0))])
def Ha (P : Params) : Heap := Heap.mk (Array.mk [(boot_o_0 P), (boot_o_1 P), (boot_o_2 P), (boot_o_3 P), (boot_o_4 P), (boot_o_5 P), (boot_o_6 P), (boot_o_7 P), (boot_o_8 P), (boot_o_9 P), (boot_o_10 P), (o11_0 P), (o12_0 P), (o13_0 P), (o14_0 P)]) life
def T0 (P : Params) : BT := (.node (boot_o_0 P) (.node (boot_o_1 P) (.node (boot_o_3 P) (.node (boot_o_7 P) .nil .nil) (.node (o11_0 P) .nil .nil)) (.node (boot_o_5 P) (.node (boot_o_9 P) .nil .nil) (.node (o13_0 P) .nil .nil))) (.node (boot_o_2 P) (.node (boot_o_4 P) (.node (boot_o_8 P) .nil .nil) (.node (o12_0 P) .nil .nil)) (.node (boot_o_6 P) (.node (boot_o_10 P) .nil .nil) (.node (o14_0 P) .nil .nil))))
def l0 : List Stmt := [top 0, top 1]
def l1 : List Stmt := [top 2, top 3, top 4, top 5, top 6, top 7, top 8, top 9]
def l2 : List Stmt := [top 10, top 11, top 12, top 13, top 14, top 15, top 16, top 17, top 18, top 19, top 20, top 21, top 22, top 23, top 24, top 25]
def l3 : List Stmt := [top 26, top 27, top 28, top 29, top 30, top 31, top 32, top 33, top 34, top 35, top 36, top 37, top 38, top 39]
def l4 : List Stmt := [top 40, top 41, top 42, top 43, top 44, top 45, top 46, top 47]
def bE : List Stmt := l0 ++ (l1 ++ (l2 ++ (l3 ++ (l4 ++ []))))
abbrev cE : Code := Code.body bE en
abbrev BB : List Frame := [topFrame (Pos.mk 0 0 0 0)]
theorem pre_ (w : World) (os : OsState) : topGo treeTable pr w 11 (some (.ref 6)) 12 (Shared.mk (boot_heap w.params) (Array.mk []) boot_drawn boot_toks os) (topStub pr) = some (Shared.mk (Ha w.params) (Array.mk []) (Drawn.mk 0 0 0 0) 187 os, Thread.mk (denote treeTable cE) cE (Pos.mk 0 0 0 0) BB) := by rw [PySem.W.Fast.te15667345088766844465, PySem.W.Fast.te11892475500146522536, PySem.W.Fast.te14364793385576792824]; kernel_rfl
theorem block_ (w : World) (os : OsState) : segRun treeTable pr w 11 (some (.ref 6)) 1 1 (Shared.mk (Ha w.params) (Array.mk []) (Drawn.mk 0 0 0 0) 187 os) (blockOf bE en cE (Pos.mk 0 0 0 0) BB) = some (Flow.next, (SharedT.mk (T0 w.params) 15 life (Array.mk []) (Drawn.mk 0 0 0 0) 187 os).abs, cE, (Pos.mk 0 0 0 0)) := by rw [PySem.W.Fast.te14374325043358763698, PySem.W.Fast.te14364793385576792824]; kernel_rfl
def o3_2 (P : Params) : Obj := (Obj.mk (.type "dict") none (Data.dict #[(DictEntry.mk (kh P "__name__") (.str "__name__" 165) (.str "spinboard.errors" 187)), (DictEntry.mk (kh P "__doc__") (.str "__doc__" 166) .none), (DictEntry.mk (kh P "__package__") (.str "__package__" 167) .none), (DictEntry.mk (kh P "__loader__") (.str "__loader__" 168) (.builtin "__main__.__loader__#opaque")), (DictEntry.mk (kh P "__spec__") (.str "__spec__" 169) .none), (DictEntry.mk (kh P "__annotations__") (.str "__annotations__" 170) (.ref 6)), (DictEntry.mk (kh P "__builtins__") (.str "__builtins__" 171) (.ref 4)), (DictEntry.mk (kh P "__file__") (.str "__file__" 173) (.str "/claim/cut.py" 172)), (DictEntry.mk (kh P "__cached__") (.str "__cached__" 174) .none), (DictEntry.mk (kh P "BoardError") (.str "BoardError" 206) (.ref 24))] 10) #[])
def o12_2 (P : Params) : Obj := (Obj.mk .none none (Data.fields #[(.int 2 0), (.int 0 0), (.ref 20)]) #[])
def o15_2 (P : Params) : Obj := (Obj.mk (.type "tuple") none (Data.seq #[(.type "ValueError")] 0) #[])
def o16_2 (P : Params) : Obj := (Obj.mk (.type "builtin_function_or_method") none (Data.fields #[(.builtin "type.__prepare__"), (.type "type")]) #[])
def o17_2 (P : Params) : Obj := (Obj.mk (.type "dict") none (Data.dict #[(DictEntry.mk (kh P "__module__") (.str "__module__" 196) (.str "spinboard.errors" 187)), (DictEntry.mk (kh P "__qualname__") (.str "__qualname__" 198) (.str "BoardError" 197)), (DictEntry.mk (kh P "__firstlineno__") (.str "__firstlineno__" 200) (.int 2 199)), (DictEntry.mk (kh P "__static_attributes__") (.str "__static_attributes__" 201) (.ref 22))] 4) #[])
def o18_2 (P : Params) : Obj := (Obj.mk (.type "tuple") none (Data.seq #[] 0) #[])
def o19_2 (P : Params) : Obj := (Obj.mk .none none (Data.fields #[]) #[])
def o20_2 (P : Params) : Obj := (Obj.mk (.type "code") none (Data.fields #[(.str "BoardError" 191), (.str "BoardError" 192), (.str "/claim/cut.py" 193), (.int 2 0), (.int 0 0), (.int 0 0), (.int 0 0), (.int 0 0), (.ref 18), (.bool false), (.int 181 0), (.ref 19), .none, .none, .none, .none, (.int 194 0), (.int 2 0), (.str "/claim/cut.py" 195)]) #[])
def o21_2 (P : Params) : Obj := (Obj.mk (.type "frame") none Data.plain #[(some (.ref 20)), (some (.ref 3)), (some (.ref 17)), none, (some (.str "spinboard.errors" 187)), none, (some (.ref 0))])
def o22_2 (P : Params) : Obj := (Obj.mk (.type "tuple") none (Data.seq #[] 0) #[])
def o23_2 (P : Params) : Obj := (Obj.mk (.type "dict") none (Data.dict #[(DictEntry.mk (kh P "__module__") (.str "__module__" 196) (.str "spinboard.errors" 187)), (DictEntry.mk (kh P "__firstlineno__") (.str "__firstlineno__" 200) (.int 2 199)), (DictEntry.mk (kh P "__static_attributes__") (.str "__static_attributes__" 201) (.ref 22)), (DictEntry.mk (kh P "__weakref__") (.str "__weakref__" 203) (.ref 25)), (DictEntry.mk (kh P "__doc__") (.str "__doc__" 204) .none)] 3) #[])
def o24_2 (P : Params) : Obj := (Obj.mk (.type "type") none (Data.cls (ClassData.mk "BoardError" [(.type "ValueError")] [(.ref 24), (.type "ValueError"), (.type "Exception"), (.type "BaseException"), (.type "object")] 23 "BoardError" true [] [] false none false)) #[(some (.ref 15)), none, (some (.str "BoardError" 189)), (some (.str "BoardError" 197)), (some (.builtin "ValueError.__new__")), (some (.bool true))])
def o25_2 (P : Params) : Obj := (Obj.mk (.type "getset_descriptor") none (Data.fields #[(.str "__weakref__" 202), (.ref 24), (.builtin "ExceptionGroup.__weakref__"), .none]) #[])
def o26_2 (P : Params) : Obj := (Obj.mk (.type "super") none (Data.fields #[(.ref 24), (.ref 24), (.ref 24)]) #[])
def o27_2 (P : Params) : Obj := (Obj.mk (.type "builtin_function_or_method") none (Data.fields #[(.builtin "object.__init_subclass__"), (.ref 24)]) #[])
def T1 (P : Params) : BT := ((((((((((((((((T0 P).ins 3 (o3_2 P)).ins 12 (o12_2 P)).ins 15 (o15_2 P)).ins 16 (o16_2 P)).ins 17 (o17_2 P)).ins 18 (o18_2 P)).ins 19 (o19_2 P)).ins 20 (o20_2 P)).ins 21 (o21_2 P)).ins 22 (o22_2 P)).ins 23 (o23_2 P)).ins 24 (o24_2 P)).ins 25 (o25_2 P)).ins 26 (o26_2 P)).ins 27 (o27_2 P))
theorem g0 (p : Program) (b : List Stmt) (w : World) (os : OsState) : segRunT treeTable p w 11 (some (.ref 6)) 1 196 (SharedT.mk (T0 w.params) 15 life (Array.mk []) (Drawn.mk 0 0 0 0) 187 os) (piecesOf l0 en (Code.body b en) (Pos.mk 0 0 0 0) BB) = some (Flow.next, (SharedT.mk (T1 w.params) 28 life (Array.mk []) (Drawn.mk 0 0 0 0) 207 os), Code.body b en, (Pos.mk 2 0 3 8)) := by rw [PySem.W.Fast.te10110043849684766642, PySem.W.Fast.te14364793385576792824]; kernel_rfl
def o3_3 (P : Params) : Obj := Obj.mk (.type "dict") none (Data.dict #[(DictEntry.mk (kh P "__name__") (.str "__name__" 165) (.str "spinboard.marks" 232)), (DictEntry.mk (kh P "__doc__") (.str "__doc__" 166) .none), (DictEntry.mk (kh P "__package__") (.str "__package__" 167) .none), (DictEntry.mk (kh P "__loader__") (.str "__loader__" 168) (.builtin "__main__.__loader__#opaque")), (DictEntry.mk (kh P "__spec__") (.str "__spec__" 169) .none), (DictEntry.mk (kh P "__annotations__") (.str "__annotations__" 170) (.ref 6)), (DictEntry.mk (kh P "__builtins__") (.str "__builtins__" 171) (.ref 4)), (DictEntry.mk (kh P "__file__") (.str "__file__" 173) (.str "/claim/cut.py" 172)), (DictEntry.mk (kh P "__cached__") (.str "__cached__" 174) .none), (DictEntry.mk (kh P "BoardError") (.str "BoardError" 206) (.ref 24)), (DictEntry.mk (kh P "NoTable") (.str "NoTable" 222) (.ref 37)), (DictEntry.mk (kh P "is_whole") (.str "is_whole" 231) (.ref 46)), (DictEntry.mk (kh P "ones") (.str "ones" 242) (.ref 53)), (DictEntry.mk (kh P "is_word") (.str "is_word" 250) (.ref 60)), (DictEntry.mk (kh P "is_mark") (.str "is_mark" 258) (.ref 67)), (DictEntry.mk (kh P "is_even") (.str "is_even" 265) (.ref 74))] 16) #[]
def o12_3 (P : Params) : Obj := (Obj.mk .none none (Data.fields #[(.int 2 0), (.int 0 0), (.ref 20), (.int 4 0), (.int 0 0), (.ref 33), (.int 7 0), (.int 0 0), (.ref 45), (.int 10 0), (.int 0 0), (.ref 52), (.int 17 0), (.int 0 0), (.ref 59), (.int 21 0), (.int 0 0), (.ref 66), (.int 27 0), (.int 0 0), (.ref 73)]) #[])
def o24_3 (P : Params) : Obj := (Obj.mk (.type "type") none (Data.cls (ClassData.mk "BoardError" [(.type "ValueError")] [(.ref 24), (.type "ValueError"), (.type "Exception"), (.type "BaseException"), (.type "object")] 23 "BoardError" true [] [(.ref 37)] false none false)) #[(some (.ref 15)), none, (some (.str "BoardError" 189)), (some (.str "BoardError" 197)), (some (.builtin "ValueError.__new__")), (some (.bool true))])
def o28_3 (P : Params) : Obj := (Obj.mk (.type "tuple") none (Data.seq #[(.ref 24)] 0) #[])
def o29_3 (P : Params) : Obj := (Obj.mk (.type "builtin_function_or_method") none (Data.fields #[(.builtin "type.__prepare__"), (.type "type")]) #[])
def o30_3 (P : Params) : Obj := (Obj.mk (.type "dict") none (Data.dict #[(DictEntry.mk (kh P "__module__") (.str "__module__" 214) (.str "spinboard.errors" 187)), (DictEntry.mk (kh P "__qualname__") (.str "__qualname__" 216) (.str "NoTable" 215)), (DictEntry.mk (kh P "__firstlineno__") (.str "__firstlineno__" 218) (.int 4 217)), (DictEntry.mk (kh P "__static_attributes__") (.str "__static_attributes__" 219) (.ref 35))] 4) #[])
def o31_3 (P : Params) : Obj := (Obj.mk (.type "tuple") none (Data.seq #[] 0) #[])
def o32_3 (P : Params) : Obj := (Obj.mk .none none (Data.fields #[]) #[])
def o33_3 (P : Params) : Obj := (Obj.mk (.type "code") none (Data.fields #[(.str "NoTable" 209), (.str "NoTable" 210), (.str "/claim/cut.py" 211), (.int 4 0), (.int 0 0), (.int 0 0), (.int 0 0), (.int 0 0), (.ref 31), (.bool false), (.int 181 0), (.ref 32), .none, .none, .none, .none, (.int 212 0), (.int 4 0), (.str "/claim/cut.py" 213)]) #[])
def o34_3 (P : Params) : Obj := (Obj.mk (.type "frame") none Data.plain #[(some (.ref 33)), (some (.ref 3)), (some (.ref 30)), none, (some (.str "spinboard.errors" 187)), none, (some (.ref 0))])
def o35_3 (P : Params) : Obj := (Obj.mk (.type "tuple") none (Data.seq #[] 0) #[])
def o36_3 (P : Params) : Obj := (Obj.mk (.type "dict") none (Data.dict #[(DictEntry.mk (kh P "__module__") (.str "__module__" 214) (.str "spinboard.errors" 187)), (DictEntry.mk (kh P "__firstlineno__") (.str "__firstlineno__" 218) (.int 4 217)), (DictEntry.mk (kh P "__static_attributes__") (.str "__static_attributes__" 219) (.ref 35)), (DictEntry.mk (kh P "__doc__") (.str "__doc__" 220) .none)] 2) #[])
def o37_3 (P : Params) : Obj := (Obj.mk (.type "type") none (Data.cls (ClassData.mk "NoTable" [(.ref 24)] [(.ref 37), (.ref 24), (.type "ValueError"), (.type "Exception"), (.type "BaseException"), (.type "object")] 36 "NoTable" true [] [] false none false)) #[(some (.ref 28)), none, (some (.str "NoTable" 207)), (some (.str "NoTable" 215)), (some (.builtin "ValueError.__new__")), (some (.bool true))])
def o38_3 (P : Params) : Obj := (Obj.mk (.type "super") none (Data.fields #[(.ref 37), (.ref 37), (.ref 37)]) #[])
def o39_3 (P : Params) : Obj := (Obj.mk (.type "builtin_function_or_method") none (Data.fields #[(.builtin "object.__init_subclass__"), (.ref 37)]) #[])
def o40_3 (P : Params) : Obj := (Obj.mk (.type "tuple") none (Data.seq #[] 0) #[])
def o41_3 (P : Params) : Obj := (Obj.mk .none none (Data.fields #[]) #[])
def o42_3 (P : Params) : Obj := (Obj.mk (.type "tuple") none (Data.seq #[(.str "thing" 228)] 0) #[])
def o43_3 (P : Params) : Obj := (Obj.mk (.type "tuple") none (Data.seq #[] 0) #[])
def o44_3 (P : Params) : Obj := (Obj.mk .none none (Data.func (FuncData.mk "is_whole" "is_whole" (defArgs (top 4)) (FuncBody.stmts (defBody (top 4))) (defScope (top 4)) 0 [] .none .none .none .none none .none .none 0)) #[])
def o45_3 (P : Params) : Obj := (Obj.mk (.type "code") none (Data.fields #[(.str "is_whole" 225), (.str "is_whole" 226), (.str "/claim/cut.py" 227), (.int 7 0), (.int 1 0), (.int 0 0), (.int 0 0), (.int 3 0), (.ref 40), (.bool true), (.int 181 0), (.ref 41), .none, (.ref 42), (.ref 43), (.ref 44), (.int 229 0), (.int 7 0), (.str "/claim/cut.py" 230)]) #[])
def o46_3 (P : Params) : Obj := (Obj.mk (.type "function") none (Data.func (FuncData.mk "is_whole" "is_whole" (defArgs (top 4)) (FuncBody.stmts (defBody (top 4))) (defScope (top 4)) 3 [] .none .none .none (.str "spinboard.shares" 223) none (.ref 45) .none 0)) #[])
def o47_3 (P : Params) : Obj := (Obj.mk (.type "tuple") none (Data.seq #[] 0) #[])
def o48_3 (P : Params) : Obj := (Obj.mk .none none (Data.fields #[]) #[])
def o49_3 (P : Params) : Obj := (Obj.mk (.type "tuple") none (Data.seq #[(.str "number" 237), (.str "many" 238), (.str "rest" 239)] 0) #[])
def o50_3 (P : Params) : Obj := (Obj.mk (.type "tuple") none (Data.seq #[] 0) #[])
def o51_3 (P : Params) : Obj := (Obj.mk .none none (Data.func (FuncData.mk "ones" "ones" (defArgs (top 6)) (FuncBody.stmts (defBody (top 6))) (defScope (top 6)) 0 [] .none .none .none .none none .none .none 0)) #[])
def o52_3 (P : Params) : Obj := (Obj.mk (.type "code") none (Data.fields #[(.str "ones" 234), (.str "ones" 235), (.str "/claim/cut.py" 236), (.int 10 0), (.int 1 0), (.int 0 0), (.int 0 0), (.int 3 0), (.ref 47), (.bool true), (.int 181 0), (.ref 48), .none, (.ref 49), (.ref 50), (.ref 51), (.int 240 0), (.int 10 0), (.str "/claim/cut.py" 241)]) #[])
def o53_3 (P : Params) : Obj := (Obj.mk (.type "function") none (Data.func (FuncData.mk "ones" "ones" (defArgs (top 6)) (FuncBody.stmts (defBody (top 6))) (defScope (top 6)) 3 [] .none .none .none (.str "spinboard.marks" 232) none (.ref 52) .none 0)) #[])
def o54_3 (P : Params) : Obj := (Obj.mk (.type "tuple") none (Data.seq #[] 0) #[])
def o55_3 (P : Params) : Obj := (Obj.mk .none none (Data.fields #[]) #[])
def o56_3 (P : Params) : Obj := (Obj.mk (.type "tuple") none (Data.seq #[(.str "thing" 246), (.str "cells" 247)] 0) #[])
def o57_3 (P : Params) : Obj := (Obj.mk (.type "tuple") none (Data.seq #[] 0) #[])
def o58_3 (P : Params) : Obj := (Obj.mk .none none (Data.func (FuncData.mk "is_word" "is_word" (defArgs (top 7)) (FuncBody.stmts (defBody (top 7))) (defScope (top 7)) 0 [] .none .none .none .none none .none .none 0)) #[])
def o59_3 (P : Params) : Obj := (Obj.mk (.type "code") none (Data.fields #[(.str "is_word" 243), (.str "is_word" 244), (.str "/claim/cut.py" 245), (.int 17 0), (.int 2 0), (.int 0 0), (.int 0 0), (.int 3 0), (.ref 54), (.bool true), (.int 181 0), (.ref 55), .none, (.ref 56), (.ref 57), (.ref 58), (.int 248 0), (.int 17 0), (.str "/claim/cut.py" 249)]) #[])
def o60_3 (P : Params) : Obj := (Obj.mk (.type "function") none (Data.func (FuncData.mk "is_word" "is_word" (defArgs (top 7)) (FuncBody.stmts (defBody (top 7))) (defScope (top 7)) 3 [] .none .none .none (.str "spinboard.marks" 232) none (.ref 59) .none 0)) #[])
def o61_3 (P : Params) : Obj := (Obj.mk (.type "tuple") none (Data.seq #[] 0) #[])
def o62_3 (P : Params) : Obj := (Obj.mk .none none (Data.fields #[]) #[])
def o63_3 (P : Params) : Obj := (Obj.mk (.type "tuple") none (Data.seq #[(.str "thing" 254), (.str "cells" 255)] 0) #[])
def o64_3 (P : Params) : Obj := (Obj.mk (.type "tuple") none (Data.seq #[] 0) #[])
def o65_3 (P : Params) : Obj := (Obj.mk .none none (Data.func (FuncData.mk "is_mark" "is_mark" (defArgs (top 8)) (FuncBody.stmts (defBody (top 8))) (defScope (top 8)) 0 [] .none .none .none .none none .none .none 0)) #[])
def o66_3 (P : Params) : Obj := (Obj.mk (.type "code") none (Data.fields #[(.str "is_mark" 251), (.str "is_mark" 252), (.str "/claim/cut.py" 253), (.int 21 0), (.int 2 0), (.int 0 0), (.int 0 0), (.int 3 0), (.ref 61), (.bool true), (.int 181 0), (.ref 62), .none, (.ref 63), (.ref 64), (.ref 65), (.int 256 0), (.int 21 0), (.str "/claim/cut.py" 257)]) #[])
def o67_3 (P : Params) : Obj := (Obj.mk (.type "function") none (Data.func (FuncData.mk "is_mark" "is_mark" (defArgs (top 8)) (FuncBody.stmts (defBody (top 8))) (defScope (top 8)) 3 [] .none .none .none (.str "spinboard.marks" 232) none (.ref 66) .none 0)) #[])
def o68_3 (P : Params) : Obj := (Obj.mk (.type "tuple") none (Data.seq #[] 0) #[])
def o69_3 (P : Params) : Obj := (Obj.mk .none none (Data.fields #[]) #[])
def o70_3 (P : Params) : Obj := (Obj.mk (.type "tuple") none (Data.seq #[(.str "mark" 262)] 0) #[])
def o71_3 (P : Params) : Obj := (Obj.mk (.type "tuple") none (Data.seq #[] 0) #[])
def o72_3 (P : Params) : Obj := (Obj.mk .none none (Data.func (FuncData.mk "is_even" "is_even" (defArgs (top 9)) (FuncBody.stmts (defBody (top 9))) (defScope (top 9)) 0 [] .none .none .none .none none .none .none 0)) #[])
def o73_3 (P : Params) : Obj := (Obj.mk (.type "code") none (Data.fields #[(.str "is_even" 259), (.str "is_even" 260), (.str "/claim/cut.py" 261), (.int 27 0), (.int 1 0), (.int 0 0), (.int 0 0), (.int 3 0), (.ref 68), (.bool true), (.int 181 0), (.ref 69), .none, (.ref 70), (.ref 71), (.ref 72), (.int 263 0), (.int 27 0), (.str "/claim/cut.py" 264)]) #[])
def o74_3 (P : Params) : Obj := (Obj.mk (.type "function") none (Data.func (FuncData.mk "is_even" "is_even" (defArgs (top 9)) (FuncBody.stmts (defBody (top 9))) (defScope (top 9)) 3 [] .none .none .none (.str "spinboard.marks" 232) none (.ref 73) .none 0)) #[])
def T2 (P : Params) : BT := (((((((((((((((((((((((((((((((((((((((((((((((((((T1 P).ins 3 (o3_3 P)).ins 12 (o12_3 P)).ins 24 (o24_3 P)).ins 28 (o28_3 P)).ins 29 (o29_3 P)).ins 30 (o30_3 P)).ins 31 (o31_3 P)).ins 32 (o32_3 P)).ins 33 (o33_3 P)).ins 34 (o34_3 P)).ins 35 (o35_3 P)).ins 36 (o36_3 P)).ins 37 (o37_3 P)).ins 38 (o38_3 P)).ins 39 (o39_3 P)).ins 40 (o40_3 P)).ins 41 (o41_3 P)).ins 42 (o42_3 P)).ins 43 (o43_3 P)).ins 44 (o44_3 P)).ins 45 (o45_3 P)).ins 46 (o46_3 P)).ins 47 (o47_3 P)).ins 48 (o48_3 P)).ins 49 (o49_3 P)).ins 50 (o50_3 P)).ins 51 (o51_3 P)).ins 52 (o52_3 P)).ins 53 (o53_3 P)).ins 54 (o54_3 P)).ins 55 (o55_3 P)).ins 56 (o56_3 P)).ins 57 (o57_3 P)).ins 58 (o58_3 P)).ins 59 (o59_3 P)).ins 60 (o60_3 P)).ins 61 (o61_3 P)).ins 62 (o62_3 P)).ins 63 (o63_3 P)).ins 64 (o64_3 P)).ins 65 (o65_3 P)).ins 66 (o66_3 P)).ins 67 (o67_3 P)).ins 68 (o68_3 P)).ins 69 (o69_3 P)).ins 70 (o70_3 P)).ins 71 (o71_3 P)).ins 72 (o72_3 P)).ins 73 (o73_3 P)).ins 74 (o74_3 P))
theorem g1 (p : Program) (b : List Stmt) (w : World) (os : OsState) : segRunT treeTable p w 11 (some (.ref 6)) 1 381 (SharedT.mk (T1 w.params) 28 life (Array.mk []) (Drawn.mk 0 0 0 0) 207 os) (piecesOf l1 en (Code.body b en) (Pos.mk 2 0 3 8) BB) = some (Flow.next, (SharedT.mk (T2 w.params) 75 life (Array.mk []) (Drawn.mk 0 0 0 0) 266 os), Code.body b en, (Pos.mk 27 0 28 55)) := by rw [PySem.W.Fast.te10110043849684766642, PySem.W.Fast.te14364793385576792824]; kernel_rfl
def o3_4 (P : Params) : Obj := Obj.mk (.type "dict") none (Data.dict #[(DictEntry.mk (kh P "__name__") (.str "__name__" 165) (.str "spinboard.tables" 330)), (DictEntry.mk (kh P "__doc__") (.str "__doc__" 166) .none), (DictEntry.mk (kh P "__package__") (.str "__package__" 167) .none), (DictEntry.mk (kh P "__loader__") (.str "__loader__" 168) (.builtin "__main__.__loader__#opaque")), (DictEntry.mk (kh P "__spec__") (.str "__spec__" 169) .none), (DictEntry.mk (kh P "__annotations__") (.str "__annotations__" 170) (.ref 6)), (DictEntry.mk (kh P "__builtins__") (.str "__builtins__" 171) (.ref 4)), (DictEntry.mk (kh P "__file__") (.str "__file__" 173) (.str "/claim/cut.py" 172)), (DictEntry.mk (kh P "__cached__") (.str "__cached__" 174) .none), (DictEntry.mk (kh P "BoardError") (.str "BoardError" 206) (.ref 24)), (DictEntry.mk (kh P "NoTable") (.str "NoTable" 222) (.ref 37)), (DictEntry.mk (kh P "is_whole") (.str "is_whole" 231) (.ref 46)), (DictEntry.mk (kh P "ones") (.str "ones" 242) (.ref 53)), (DictEntry.mk (kh P "is_word") (.str "is_word" 250) (.ref 60)), (DictEntry.mk (kh P "is_mark") (.str "is_mark" 258) (.ref 67)), (DictEntry.mk (kh P "is_even") (.str "is_even" 265) (.ref 74)), (DictEntry.mk (kh P "is_even_mark") (.str "is_even_mark" 273) (.ref 81)), (DictEntry.mk (kh P "commute") (.str "commute" 281) (.ref 88)), (DictEntry.mk (kh P "product") (.str "product" 290) (.ref 95)), (DictEntry.mk (kh P "solved") (.str "solved" 303) (.ref 102)), (DictEntry.mk (kh P "cleared") (.str "cleared" 313) (.ref 109)), (DictEntry.mk (kh P "places_at_one") (.str "places_at_one" 319) (.ref 114)), (DictEntry.mk (kh P "solution") (.str "solution" 329) (.ref 121)), (DictEntry.mk (kh P "PRODUCT_OF_NONE") (.str "PRODUCT_OF_NONE" 335) (.ref 122)), (DictEntry.mk (kh P "FIRST_SIGN_LEAD") (.str "FIRST_SIGN_LEAD" 337) (.int 6 336)), (DictEntry.mk (kh P "is_table") (.str "is_table" 343) (.ref 127)), (DictEntry.mk (kh P "commutes_with_all") (.str "commutes_with_all" 349) (.ref 132)), (DictEntry.mk (kh P "check_table") (.str "check_table" 357) (.ref 139)), (DictEntry.mk (kh P "reduced") (.str "reduced" 363) (.ref 144)), (DictEntry.mk (kh P "without_lead") (.str "without_lead" 371) (.ref 151))] 30) #[]
def o12_4 (P : Params) : Obj := (Obj.mk .none none (Data.fields #[(.int 2 0), (.int 0 0), (.ref 20), (.int 4 0), (.int 0 0), (.ref 33), (.int 7 0), (.int 0 0), (.ref 45), (.int 10 0), (.int 0 0), (.ref 52), (.int 17 0), (.int 0 0), (.ref 59), (.int 21 0), (.int 0 0), (.ref 66), (.int 27 0), (.int 0 0), (.ref 73), (.int 29 0), (.int 0 0), (.ref 80), (.int 31 0), (.int 0 0), (.ref 87), (.int 33 0), (.int 0 0), (.ref 94), (.int 37 0), (.int 0 0), (.ref 101), (.int 46 0), (.int 0 0), (.ref 108), (.int 52 0), (.int 0 0), (.ref 113), (.int 54 0), (.int 0 0), (.ref 120), (.int 64 0), (.int 0 0), (.ref 126), (.int 72 0), (.int 0 0), (.ref 131), (.int 74 0), (.int 0 0), (.ref 138), (.int 77 0), (.int 0 0), (.ref 143), (.int 86 0), (.int 0 0), (.ref 150)]) #[])
def o75_4 (P : Params) : Obj := (Obj.mk (.type "tuple") none (Data.seq #[] 0) #[])
def o76_4 (P : Params) : Obj := (Obj.mk .none none (Data.fields #[]) #[])
def o77_4 (P : Params) : Obj := (Obj.mk (.type "tuple") none (Data.seq #[(.str "thing" 269), (.str "cells" 270)] 0) #[])
def o78_4 (P : Params) : Obj := (Obj.mk (.type "tuple") none (Data.seq #[] 0) #[])
def o79_4 (P : Params) : Obj := (Obj.mk .none none (Data.func (FuncData.mk "is_even_mark" "is_even_mark" (defArgs (top 10)) (FuncBody.stmts (defBody (top 10))) (defScope (top 10)) 0 [] .none .none .none .none none .none .none 0)) #[])
def o80_4 (P : Params) : Obj := (Obj.mk (.type "code") none (Data.fields #[(.str "is_even_mark" 266), (.str "is_even_mark" 267), (.str "/claim/cut.py" 268), (.int 29 0), (.int 2 0), (.int 0 0), (.int 0 0), (.int 3 0), (.ref 75), (.bool true), (.int 181 0), (.ref 76), .none, (.ref 77), (.ref 78), (.ref 79), (.int 271 0), (.int 29 0), (.str "/claim/cut.py" 272)]) #[])
def o81_4 (P : Params) : Obj := (Obj.mk (.type "function") none (Data.func (FuncData.mk "is_even_mark" "is_even_mark" (defArgs (top 10)) (FuncBody.stmts (defBody (top 10))) (defScope (top 10)) 3 [] .none .none .none (.str "spinboard.marks" 232) none (.ref 80) .none 0)) #[])
def o82_4 (P : Params) : Obj := (Obj.mk (.type "tuple") none (Data.seq #[] 0) #[])
def o83_4 (P : Params) : Obj := (Obj.mk .none none (Data.fields #[]) #[])
def o84_4 (P : Params) : Obj := (Obj.mk (.type "tuple") none (Data.seq #[(.str "one" 277), (.str "other" 278)] 0) #[])
def o85_4 (P : Params) : Obj := (Obj.mk (.type "tuple") none (Data.seq #[] 0) #[])
def o86_4 (P : Params) : Obj := (Obj.mk .none none (Data.func (FuncData.mk "commute" "commute" (defArgs (top 11)) (FuncBody.stmts (defBody (top 11))) (defScope (top 11)) 0 [] .none .none .none .none none .none .none 0)) #[])
def o87_4 (P : Params) : Obj := (Obj.mk (.type "code") none (Data.fields #[(.str "commute" 274), (.str "commute" 275), (.str "/claim/cut.py" 276), (.int 31 0), (.int 2 0), (.int 0 0), (.int 0 0), (.int 3 0), (.ref 82), (.bool true), (.int 181 0), (.ref 83), .none, (.ref 84), (.ref 85), (.ref 86), (.int 279 0), (.int 31 0), (.str "/claim/cut.py" 280)]) #[])
def o88_4 (P : Params) : Obj := (Obj.mk (.type "function") none (Data.func (FuncData.mk "commute" "commute" (defArgs (top 11)) (FuncBody.stmts (defBody (top 11))) (defScope (top 11)) 3 [] .none .none .none (.str "spinboard.marks" 232) none (.ref 87) .none 0)) #[])
def o89_4 (P : Params) : Obj := (Obj.mk (.type "tuple") none (Data.seq #[] 0) #[])
def o90_4 (P : Params) : Obj := (Obj.mk .none none (Data.fields #[]) #[])
def o91_4 (P : Params) : Obj := (Obj.mk (.type "tuple") none (Data.seq #[(.str "one" 285), (.str "other" 286), (.str "met" 287)] 0) #[])
def o92_4 (P : Params) : Obj := (Obj.mk (.type "tuple") none (Data.seq #[] 0) #[])
def o93_4 (P : Params) : Obj := (Obj.mk .none none (Data.func (FuncData.mk "product" "product" (defArgs (top 12)) (FuncBody.stmts (defBody (top 12))) (defScope (top 12)) 0 [] .none .none .none .none none .none .none 0)) #[])
def o94_4 (P : Params) : Obj := (Obj.mk (.type "code") none (Data.fields #[(.str "product" 282), (.str "product" 283), (.str "/claim/cut.py" 284), (.int 33 0), (.int 2 0), (.int 0 0), (.int 0 0), (.int 3 0), (.ref 89), (.bool true), (.int 181 0), (.ref 90), .none, (.ref 91), (.ref 92), (.ref 93), (.int 288 0), (.int 33 0), (.str "/claim/cut.py" 289)]) #[])
def o95_4 (P : Params) : Obj := (Obj.mk (.type "function") none (Data.func (FuncData.mk "product" "product" (defArgs (top 12)) (FuncBody.stmts (defBody (top 12))) (defScope (top 12)) 3 [] .none .none .none (.str "spinboard.marks" 232) none (.ref 94) .none 0)) #[])
def o96_4 (P : Params) : Obj := (Obj.mk (.type "tuple") none (Data.seq #[] 0) #[])
def o97_4 (P : Params) : Obj := (Obj.mk .none none (Data.fields #[]) #[])
def o98_4 (P : Params) : Obj := (Obj.mk (.type "tuple") none (Data.seq #[(.str "equations" 296), (.str "kept" 297), (.str "place" 298), (.str "equation" 299), (.str "left" 300)] 0) #[])
def o99_4 (P : Params) : Obj := (Obj.mk (.type "tuple") none (Data.seq #[] 0) #[])
def o100_4 (P : Params) : Obj := (Obj.mk .none none (Data.func (FuncData.mk "solved" "solved" (defArgs (top 14)) (FuncBody.stmts (defBody (top 14))) (defScope (top 14)) 0 [] .none .none .none .none none .none .none 0)) #[])
def o101_4 (P : Params) : Obj := (Obj.mk (.type "code") none (Data.fields #[(.str "solved" 293), (.str "solved" 294), (.str "/claim/cut.py" 295), (.int 37 0), (.int 1 0), (.int 0 0), (.int 0 0), (.int 3 0), (.ref 96), (.bool true), (.int 181 0), (.ref 97), .none, (.ref 98), (.ref 99), (.ref 100), (.int 301 0), (.int 37 0), (.str "/claim/cut.py" 302)]) #[])
def o102_4 (P : Params) : Obj := (Obj.mk (.type "function") none (Data.func (FuncData.mk "solved" "solved" (defArgs (top 14)) (FuncBody.stmts (defBody (top 14))) (defScope (top 14)) 3 [] .none .none .none (.str "spinboard.bits" 291) none (.ref 101) .none 0)) #[])
def o103_4 (P : Params) : Obj := (Obj.mk (.type "tuple") none (Data.seq #[] 0) #[])
def o104_4 (P : Params) : Obj := (Obj.mk .none none (Data.fields #[]) #[])
def o105_4 (P : Params) : Obj := (Obj.mk (.type "tuple") none (Data.seq #[(.str "equation" 307), (.str "kept" 308), (.str "left" 309), (.str "other" 310)] 0) #[])
def o106_4 (P : Params) : Obj := (Obj.mk (.type "tuple") none (Data.seq #[] 0) #[])
def o107_4 (P : Params) : Obj := (Obj.mk .none none (Data.func (FuncData.mk "cleared" "cleared" (defArgs (top 15)) (FuncBody.stmts (defBody (top 15))) (defScope (top 15)) 0 [] .none .none .none .none none .none .none 0)) #[])
def o108_4 (P : Params) : Obj := (Obj.mk (.type "code") none (Data.fields #[(.str "cleared" 304), (.str "cleared" 305), (.str "/claim/cut.py" 306), (.int 46 0), (.int 2 0), (.int 0 0), (.int 0 0), (.int 3 0), (.ref 103), (.bool true), (.int 181 0), (.ref 104), .none, (.ref 105), (.ref 106), (.ref 107), (.int 311 0), (.int 46 0), (.str "/claim/cut.py" 312)]) #[])
def o109_4 (P : Params) : Obj := (Obj.mk (.type "function") none (Data.func (FuncData.mk "cleared" "cleared" (defArgs (top 15)) (FuncBody.stmts (defBody (top 15))) (defScope (top 15)) 3 [] .none .none .none (.str "spinboard.bits" 291) none (.ref 108) .none 0)) #[])
def o110_4 (P : Params) : Obj := (Obj.mk (.type "tuple") none (Data.seq #[] 0) #[])
def o111_4 (P : Params) : Obj := (Obj.mk .none none (Data.fields #[]) #[])
def o112_4 (P : Params) : Obj := (Obj.mk .none none (Data.func (FuncData.mk "places_at_one" "places_at_one" (defArgs (top 16)) (FuncBody.stmts (defBody (top 16))) (defScope (top 16)) 0 [] .none .none .none .none none .none .none 0)) #[])
def o113_4 (P : Params) : Obj := (Obj.mk (.type "code") none (Data.fields #[(.str "places_at_one" 314), (.str "places_at_one" 315), (.str "/claim/cut.py" 316), (.int 52 0), (.int 1 0), (.int 0 0), (.int 0 0), (.int 3 0), (.ref 110), (.bool true), (.int 181 0), (.ref 111), .none, .none, .none, (.ref 112), (.int 317 0), (.int 52 0), (.str "/claim/cut.py" 318)]) #[])
def o114_4 (P : Params) : Obj := (Obj.mk (.type "function") none (Data.func (FuncData.mk "places_at_one" "places_at_one" (defArgs (top 16)) (FuncBody.stmts (defBody (top 16))) (defScope (top 16)) 3 [] .none .none .none (.str "spinboard.bits" 291) none (.ref 113) .none 0)) #[])
def o115_4 (P : Params) : Obj := (Obj.mk (.type "tuple") none (Data.seq #[] 0) #[])
def o116_4 (P : Params) : Obj := (Obj.mk .none none (Data.fields #[]) #[])
def o117_4 (P : Params) : Obj := (Obj.mk (.type "tuple") none (Data.seq #[(.str "kept" 323), (.str "x" 324), (.str "height" 325), (.str "equation" 326)] 0) #[])
def o118_4 (P : Params) : Obj := (Obj.mk (.type "tuple") none (Data.seq #[] 0) #[])
def o119_4 (P : Params) : Obj := (Obj.mk .none none (Data.func (FuncData.mk "solution" "solution" (defArgs (top 17)) (FuncBody.stmts (defBody (top 17))) (defScope (top 17)) 0 [] .none .none .none .none none .none .none 0)) #[])
def o120_4 (P : Params) : Obj := (Obj.mk (.type "code") none (Data.fields #[(.str "solution" 320), (.str "solution" 321), (.str "/claim/cut.py" 322), (.int 54 0), (.int 1 0), (.int 0 0), (.int 0 0), (.int 3 0), (.ref 115), (.bool true), (.int 181 0), (.ref 116), .none, (.ref 117), (.ref 118), (.ref 119), (.int 327 0), (.int 54 0), (.str "/claim/cut.py" 328)]) #[])
def o121_4 (P : Params) : Obj := (Obj.mk (.type "function") none (Data.func (FuncData.mk "solution" "solution" (defArgs (top 17)) (FuncBody.stmts (defBody (top 17))) (defScope (top 17)) 3 [] .none .none .none (.str "spinboard.bits" 291) none (.ref 120) .none 0)) #[])
def o122_4 (P : Params) : Obj := (Obj.mk (.type "tuple") none (Data.seq #[(.int 0 332), (.int 0 333), (.int 0 334)] 0) #[])
def o123_4 (P : Params) : Obj := (Obj.mk (.type "tuple") none (Data.seq #[] 0) #[])
def o124_4 (P : Params) : Obj := (Obj.mk .none none (Data.fields #[]) #[])
def o125_4 (P : Params) : Obj := (Obj.mk .none none (Data.func (FuncData.mk "is_table" "is_table" (defArgs (top 21)) (FuncBody.stmts (defBody (top 21))) (defScope (top 21)) 0 [] .none .none .none .none none .none .none 0)) #[])
def o126_4 (P : Params) : Obj := (Obj.mk (.type "code") none (Data.fields #[(.str "is_table" 338), (.str "is_table" 339), (.str "/claim/cut.py" 340), (.int 64 0), (.int 2 0), (.int 0 0), (.int 0 0), (.int 3 0), (.ref 123), (.bool true), (.int 181 0), (.ref 124), .none, .none, .none, (.ref 125), (.int 341 0), (.int 64 0), (.str "/claim/cut.py" 342)]) #[])
def o127_4 (P : Params) : Obj := (Obj.mk (.type "function") none (Data.func (FuncData.mk "is_table" "is_table" (defArgs (top 21)) (FuncBody.stmts (defBody (top 21))) (defScope (top 21)) 3 [] .none .none .none (.str "spinboard.tables" 330) none (.ref 126) .none 0)) #[])
def o128_4 (P : Params) : Obj := (Obj.mk (.type "tuple") none (Data.seq #[] 0) #[])
def o129_4 (P : Params) : Obj := (Obj.mk .none none (Data.fields #[]) #[])
def o130_4 (P : Params) : Obj := (Obj.mk .none none (Data.func (FuncData.mk "commutes_with_all" "commutes_with_all" (defArgs (top 22)) (FuncBody.stmts (defBody (top 22))) (defScope (top 22)) 0 [] .none .none .none .none none .none .none 0)) #[])
def o131_4 (P : Params) : Obj := (Obj.mk (.type "code") none (Data.fields #[(.str "commutes_with_all" 344), (.str "commutes_with_all" 345), (.str "/claim/cut.py" 346), (.int 72 0), (.int 2 0), (.int 0 0), (.int 0 0), (.int 3 0), (.ref 128), (.bool true), (.int 181 0), (.ref 129), .none, .none, .none, (.ref 130), (.int 347 0), (.int 72 0), (.str "/claim/cut.py" 348)]) #[])
def o132_4 (P : Params) : Obj := (Obj.mk (.type "function") none (Data.func (FuncData.mk "commutes_with_all" "commutes_with_all" (defArgs (top 22)) (FuncBody.stmts (defBody (top 22))) (defScope (top 22)) 3 [] .none .none .none (.str "spinboard.tables" 330) none (.ref 131) .none 0)) #[])
def o133_4 (P : Params) : Obj := (Obj.mk (.type "tuple") none (Data.seq #[] 0) #[])
def o134_4 (P : Params) : Obj := (Obj.mk .none none (Data.fields #[]) #[])
def o135_4 (P : Params) : Obj := (Obj.mk (.type "tuple") none (Data.seq #[(.str "rows" 353), (.str "cells" 354)] 0) #[])
def o136_4 (P : Params) : Obj := (Obj.mk (.type "tuple") none (Data.seq #[] 0) #[])
def o137_4 (P : Params) : Obj := (Obj.mk .none none (Data.func (FuncData.mk "check_table" "check_table" (defArgs (top 23)) (FuncBody.stmts (defBody (top 23))) (defScope (top 23)) 0 [] .none .none .none .none none .none .none 0)) #[])
def o138_4 (P : Params) : Obj := (Obj.mk (.type "code") none (Data.fields #[(.str "check_table" 350), (.str "check_table" 351), (.str "/claim/cut.py" 352), (.int 74 0), (.int 2 0), (.int 0 0), (.int 0 0), (.int 3 0), (.ref 133), (.bool true), (.int 181 0), (.ref 134), .none, (.ref 135), (.ref 136), (.ref 137), (.int 355 0), (.int 74 0), (.str "/claim/cut.py" 356)]) #[])
def o139_4 (P : Params) : Obj := (Obj.mk (.type "function") none (Data.func (FuncData.mk "check_table" "check_table" (defArgs (top 23)) (FuncBody.stmts (defBody (top 23))) (defScope (top 23)) 3 [] .none .none .none (.str "spinboard.tables" 330) none (.ref 138) .none 0)) #[])
def o140_4 (P : Params) : Obj := (Obj.mk (.type "tuple") none (Data.seq #[] 0) #[])
def o141_4 (P : Params) : Obj := (Obj.mk .none none (Data.fields #[]) #[])
def o142_4 (P : Params) : Obj := (Obj.mk .none none (Data.func (FuncData.mk "reduced" "reduced" (defArgs (top 24)) (FuncBody.stmts (defBody (top 24))) (defScope (top 24)) 0 [] .none .none .none .none none .none .none 0)) #[])
def o143_4 (P : Params) : Obj := (Obj.mk (.type "code") none (Data.fields #[(.str "reduced" 358), (.str "reduced" 359), (.str "/claim/cut.py" 360), (.int 77 0), (.int 2 0), (.int 0 0), (.int 0 0), (.int 3 0), (.ref 140), (.bool true), (.int 181 0), (.ref 141), .none, .none, .none, (.ref 142), (.int 361 0), (.int 77 0), (.str "/claim/cut.py" 362)]) #[])
def o144_4 (P : Params) : Obj := (Obj.mk (.type "function") none (Data.func (FuncData.mk "reduced" "reduced" (defArgs (top 24)) (FuncBody.stmts (defBody (top 24))) (defScope (top 24)) 3 [] .none .none .none (.str "spinboard.tables" 330) none (.ref 143) .none 0)) #[])
def o145_4 (P : Params) : Obj := (Obj.mk (.type "tuple") none (Data.seq #[] 0) #[])
def o146_4 (P : Params) : Obj := (Obj.mk .none none (Data.fields #[]) #[])
def o147_4 (P : Params) : Obj := (Obj.mk (.type "tuple") none (Data.seq #[(.str "mark" 367), (.str "row" 368)] 0) #[])
def o148_4 (P : Params) : Obj := (Obj.mk (.type "tuple") none (Data.seq #[] 0) #[])
def o149_4 (P : Params) : Obj := (Obj.mk .none none (Data.func (FuncData.mk "without_lead" "without_lead" (defArgs (top 25)) (FuncBody.stmts (defBody (top 25))) (defScope (top 25)) 0 [] .none .none .none .none none .none .none 0)) #[])
def o150_4 (P : Params) : Obj := (Obj.mk (.type "code") none (Data.fields #[(.str "without_lead" 364), (.str "without_lead" 365), (.str "/claim/cut.py" 366), (.int 86 0), (.int 2 0), (.int 0 0), (.int 0 0), (.int 3 0), (.ref 145), (.bool true), (.int 181 0), (.ref 146), .none, (.ref 147), (.ref 148), (.ref 149), (.int 369 0), (.int 86 0), (.str "/claim/cut.py" 370)]) #[])
def o151_4 (P : Params) : Obj := (Obj.mk (.type "function") none (Data.func (FuncData.mk "without_lead" "without_lead" (defArgs (top 25)) (FuncBody.stmts (defBody (top 25))) (defScope (top 25)) 3 [] .none .none .none (.str "spinboard.tables" 330) none (.ref 150) .none 0)) #[])
def T3 (P : Params) : BT := ((((((((((((((((((((((((((((((((((((((((((((((((((((((((((((((((((((((((((((((((T2 P).ins 3 (o3_4 P)).ins 12 (o12_4 P)).ins 75 (o75_4 P)).ins 76 (o76_4 P)).ins 77 (o77_4 P)).ins 78 (o78_4 P)).ins 79 (o79_4 P)).ins 80 (o80_4 P)).ins 81 (o81_4 P)).ins 82 (o82_4 P)).ins 83 (o83_4 P)).ins 84 (o84_4 P)).ins 85 (o85_4 P)).ins 86 (o86_4 P)).ins 87 (o87_4 P)).ins 88 (o88_4 P)).ins 89 (o89_4 P)).ins 90 (o90_4 P)).ins 91 (o91_4 P)).ins 92 (o92_4 P)).ins 93 (o93_4 P)).ins 94 (o94_4 P)).ins 95 (o95_4 P)).ins 96 (o96_4 P)).ins 97 (o97_4 P)).ins 98 (o98_4 P)).ins 99 (o99_4 P)).ins 100 (o100_4 P)).ins 101 (o101_4 P)).ins 102 (o102_4 P)).ins 103 (o103_4 P)).ins 104 (o104_4 P)).ins 105 (o105_4 P)).ins 106 (o106_4 P)).ins 107 (o107_4 P)).ins 108 (o108_4 P)).ins 109 (o109_4 P)).ins 110 (o110_4 P)).ins 111 (o111_4 P)).ins 112 (o112_4 P)).ins 113 (o113_4 P)).ins 114 (o114_4 P)).ins 115 (o115_4 P)).ins 116 (o116_4 P)).ins 117 (o117_4 P)).ins 118 (o118_4 P)).ins 119 (o119_4 P)).ins 120 (o120_4 P)).ins 121 (o121_4 P)).ins 122 (o122_4 P)).ins 123 (o123_4 P)).ins 124 (o124_4 P)).ins 125 (o125_4 P)).ins 126 (o126_4 P)).ins 127 (o127_4 P)).ins 128 (o128_4 P)).ins 129 (o129_4 P)).ins 130 (o130_4 P)).ins 131 (o131_4 P)).ins 132 (o132_4 P)).ins 133 (o133_4 P)).ins 134 (o134_4 P)).ins 135 (o135_4 P)).ins 136 (o136_4 P)).ins 137 (o137_4 P)).ins 138 (o138_4 P)).ins 139 (o139_4 P)).ins 140 (o140_4 P)).ins 141 (o141_4 P)).ins 142 (o142_4 P)).ins 143 (o143_4 P)).ins 144 (o144_4 P)).ins 145 (o145_4 P)).ins 146 (o146_4 P)).ins 147 (o147_4 P)).ins 148 (o148_4 P)).ins 149 (o149_4 P)).ins 150 (o150_4 P)).ins 151 (o151_4 P))
theorem g2 (p : Program) (b : List Stmt) (w : World) (os : OsState) : segRunT treeTable p w 11 (some (.ref 6)) 1 393 (SharedT.mk (T2 w.params) 75 life (Array.mk []) (Drawn.mk 0 0 0 0) 266 os) (piecesOf l2 en (Code.body b en) (Pos.mk 27 0 28 55) BB) = some (Flow.next, (SharedT.mk (T3 w.params) 152 life (Array.mk []) (Drawn.mk 0 0 0 0) 372 os), Code.body b en, (Pos.mk 86 0 87 71)) := by rw [PySem.W.Fast.te10110043849684766642, PySem.W.Fast.te14364793385576792824]; kernel_rfl
def o3_5 (P : Params) : Obj := Obj.mk (.type "dict") none (Data.dict #[(DictEntry.mk (kh P "__name__") (.str "__name__" 165) (.str "law_spinboard_k53_reduced" 421)), (DictEntry.mk (kh P "__doc__") (.str "__doc__" 166) .none), (DictEntry.mk (kh P "__package__") (.str "__package__" 167) .none), (DictEntry.mk (kh P "__loader__") (.str "__loader__" 168) (.builtin "__main__.__loader__#opaque")), (DictEntry.mk (kh P "__spec__") (.str "__spec__" 169) .none), (DictEntry.mk (kh P "__annotations__") (.str "__annotations__" 170) (.ref 6)), (DictEntry.mk (kh P "__builtins__") (.str "__builtins__" 171) (.ref 4)), (DictEntry.mk (kh P "__file__") (.str "__file__" 173) (.str "/claim/cut.py" 172)), (DictEntry.mk (kh P "__cached__") (.str "__cached__" 174) .none), (DictEntry.mk (kh P "BoardError") (.str "BoardError" 206) (.ref 24)), (DictEntry.mk (kh P "NoTable") (.str "NoTable" 222) (.ref 37)), (DictEntry.mk (kh P "is_whole") (.str "is_whole" 231) (.ref 46)), (DictEntry.mk (kh P "ones") (.str "ones" 242) (.ref 53)), (DictEntry.mk (kh P "is_word") (.str "is_word" 250) (.ref 60)), (DictEntry.mk (kh P "is_mark") (.str "is_mark" 258) (.ref 67)), (DictEntry.mk (kh P "is_even") (.str "is_even" 265) (.ref 74)), (DictEntry.mk (kh P "is_even_mark") (.str "is_even_mark" 273) (.ref 81)), (DictEntry.mk (kh P "commute") (.str "commute" 281) (.ref 88)), (DictEntry.mk (kh P "product") (.str "product" 290) (.ref 95)), (DictEntry.mk (kh P "solved") (.str "solved" 303) (.ref 102)), (DictEntry.mk (kh P "cleared") (.str "cleared" 313) (.ref 109)), (DictEntry.mk (kh P "places_at_one") (.str "places_at_one" 319) (.ref 114)), (DictEntry.mk (kh P "solution") (.str "solution" 329) (.ref 121)), (DictEntry.mk (kh P "PRODUCT_OF_NONE") (.str "PRODUCT_OF_NONE" 335) (.ref 122)), (DictEntry.mk (kh P "FIRST_SIGN_LEAD") (.str "FIRST_SIGN_LEAD" 337) (.int 6 336)), (DictEntry.mk (kh P "is_table") (.str "is_table" 343) (.ref 127)), (DictEntry.mk (kh P "commutes_with_all") (.str "commutes_with_all" 349) (.ref 132)), (DictEntry.mk (kh P "check_table") (.str "check_table" 357) (.ref 139)), (DictEntry.mk (kh P "reduced") (.str "reduced" 363) (.ref 144)), (DictEntry.mk (kh P "without_lead") (.str "without_lead" 371) (.ref 151)), (DictEntry.mk (kh P "lead") (.str "lead" 378) (.ref 158)), (DictEntry.mk (kh P "least_cell") (.str "least_cell" 385) (.ref 165)), (DictEntry.mk (kh P "has_at_lead") (.str "has_at_lead" 393) (.ref 172)), (DictEntry.mk (kh P "made_of") (.str "made_of" 399) (.ref 177)), (DictEntry.mk (kh P "rows_with") (.str "rows_with" 405) (.ref 182)), (DictEntry.mk (kh P "product_of") (.str "product_of" 414) (.ref 189)), (DictEntry.mk (kh P "apart_by") (.str "apart_by" 420) (.ref 194)), (DictEntry.mk (kh P "_law_cell_at") (.str "_law_cell_at" 430) (.ref 201)), (DictEntry.mk (kh P "_law_whole") (.str "_law_whole" 437) (.ref 208)), (DictEntry.mk (kh P "_law_ones") (.str "_law_ones" 445) (.ref 215)), (DictEntry.mk (kh P "_law_product") (.str "_law_product" 454) (.ref 222)), (DictEntry.mk (kh P "_law_commute") (.str "_law_commute" 462) (.ref 229)), (DictEntry.mk (kh P "_law_even_mark") (.str "_law_even_mark" 473) (.ref 236))] 43) #[]
def o12_5 (P : Params) : Obj := (Obj.mk .none none (Data.fields #[(.int 2 0), (.int 0 0), (.ref 20), (.int 4 0), (.int 0 0), (.ref 33), (.int 7 0), (.int 0 0), (.ref 45), (.int 10 0), (.int 0 0), (.ref 52), (.int 17 0), (.int 0 0), (.ref 59), (.int 21 0), (.int 0 0), (.ref 66), (.int 27 0), (.int 0 0), (.ref 73), (.int 29 0), (.int 0 0), (.ref 80), (.int 31 0), (.int 0 0), (.ref 87), (.int 33 0), (.int 0 0), (.ref 94), (.int 37 0), (.int 0 0), (.ref 101), (.int 46 0), (.int 0 0), (.ref 108), (.int 52 0), (.int 0 0), (.ref 113), (.int 54 0), (.int 0 0), (.ref 120), (.int 64 0), (.int 0 0), (.ref 126), (.int 72 0), (.int 0 0), (.ref 131), (.int 74 0), (.int 0 0), (.ref 138), (.int 77 0), (.int 0 0), (.ref 143), (.int 86 0), (.int 0 0), (.ref 150), (.int 88 0), (.int 0 0), (.ref 157), (.int 92 0), (.int 0 0), (.ref 164), (.int 94 0), (.int 0 0), (.ref 171), (.int 98 0), (.int 0 0), (.ref 176), (.int 107 0), (.int 0 0), (.ref 181), (.int 109 0), (.int 0 0), (.ref 188), (.int 114 0), (.int 0 0), (.ref 193), (.int 119 0), (.int 0 0), (.ref 200), (.int 123 0), (.int 0 0), (.ref 207), (.int 125 0), (.int 0 0), (.ref 214), (.int 131 0), (.int 0 0), (.ref 221), (.int 134 0), (.int 0 0), (.ref 228), (.int 136 0), (.int 0 0), (.ref 235)]) #[])
def o152_5 (P : Params) : Obj := (Obj.mk (.type "tuple") none (Data.seq #[] 0) #[])
def o153_5 (P : Params) : Obj := (Obj.mk .none none (Data.fields #[]) #[])
def o154_5 (P : Params) : Obj := (Obj.mk (.type "tuple") none (Data.seq #[(.str "mark" 375)] 0) #[])
def o155_5 (P : Params) : Obj := (Obj.mk (.type "tuple") none (Data.seq #[] 0) #[])
def o156_5 (P : Params) : Obj := (Obj.mk .none none (Data.func (FuncData.mk "lead" "lead" (defArgs (top 26)) (FuncBody.stmts (defBody (top 26))) (defScope (top 26)) 0 [] .none .none .none .none none .none .none 0)) #[])
def o157_5 (P : Params) : Obj := (Obj.mk (.type "code") none (Data.fields #[(.str "lead" 372), (.str "lead" 373), (.str "/claim/cut.py" 374), (.int 88 0), (.int 1 0), (.int 0 0), (.int 0 0), (.int 3 0), (.ref 152), (.bool true), (.int 181 0), (.ref 153), .none, (.ref 154), (.ref 155), (.ref 156), (.int 376 0), (.int 88 0), (.str "/claim/cut.py" 377)]) #[])
def o158_5 (P : Params) : Obj := (Obj.mk (.type "function") none (Data.func (FuncData.mk "lead" "lead" (defArgs (top 26)) (FuncBody.stmts (defBody (top 26))) (defScope (top 26)) 3 [] .none .none .none (.str "spinboard.tables" 330) none (.ref 157) .none 0)) #[])
def o159_5 (P : Params) : Obj := (Obj.mk (.type "tuple") none (Data.seq #[] 0) #[])
def o160_5 (P : Params) : Obj := (Obj.mk .none none (Data.fields #[]) #[])
def o161_5 (P : Params) : Obj := (Obj.mk (.type "tuple") none (Data.seq #[(.str "word" 382)] 0) #[])
def o162_5 (P : Params) : Obj := (Obj.mk (.type "tuple") none (Data.seq #[] 0) #[])
def o163_5 (P : Params) : Obj := (Obj.mk .none none (Data.func (FuncData.mk "least_cell" "least_cell" (defArgs (top 27)) (FuncBody.stmts (defBody (top 27))) (defScope (top 27)) 0 [] .none .none .none .none none .none .none 0)) #[])
def o164_5 (P : Params) : Obj := (Obj.mk (.type "code") none (Data.fields #[(.str "least_cell" 379), (.str "least_cell" 380), (.str "/claim/cut.py" 381), (.int 92 0), (.int 1 0), (.int 0 0), (.int 0 0), (.int 3 0), (.ref 159), (.bool true), (.int 181 0), (.ref 160), .none, (.ref 161), (.ref 162), (.ref 163), (.int 383 0), (.int 92 0), (.str "/claim/cut.py" 384)]) #[])
def o165_5 (P : Params) : Obj := (Obj.mk (.type "function") none (Data.func (FuncData.mk "least_cell" "least_cell" (defArgs (top 27)) (FuncBody.stmts (defBody (top 27))) (defScope (top 27)) 3 [] .none .none .none (.str "spinboard.tables" 330) none (.ref 164) .none 0)) #[])
def o166_5 (P : Params) : Obj := (Obj.mk (.type "tuple") none (Data.seq #[] 0) #[])
def o167_5 (P : Params) : Obj := (Obj.mk .none none (Data.fields #[]) #[])
def o168_5 (P : Params) : Obj := (Obj.mk (.type "tuple") none (Data.seq #[(.str "mark" 389), (.str "place" 390)] 0) #[])
def o169_5 (P : Params) : Obj := (Obj.mk (.type "tuple") none (Data.seq #[] 0) #[])
def o170_5 (P : Params) : Obj := (Obj.mk .none none (Data.func (FuncData.mk "has_at_lead" "has_at_lead" (defArgs (top 28)) (FuncBody.stmts (defBody (top 28))) (defScope (top 28)) 0 [] .none .none .none .none none .none .none 0)) #[])
def o171_5 (P : Params) : Obj := (Obj.mk (.type "code") none (Data.fields #[(.str "has_at_lead" 386), (.str "has_at_lead" 387), (.str "/claim/cut.py" 388), (.int 94 0), (.int 2 0), (.int 0 0), (.int 0 0), (.int 3 0), (.ref 166), (.bool true), (.int 181 0), (.ref 167), .none, (.ref 168), (.ref 169), (.ref 170), (.int 391 0), (.int 94 0), (.str "/claim/cut.py" 392)]) #[])
def o172_5 (P : Params) : Obj := (Obj.mk (.type "function") none (Data.func (FuncData.mk "has_at_lead" "has_at_lead" (defArgs (top 28)) (FuncBody.stmts (defBody (top 28))) (defScope (top 28)) 3 [] .none .none .none (.str "spinboard.tables" 330) none (.ref 171) .none 0)) #[])
def o173_5 (P : Params) : Obj := (Obj.mk (.type "tuple") none (Data.seq #[] 0) #[])
def o174_5 (P : Params) : Obj := (Obj.mk .none none (Data.fields #[]) #[])
def o175_5 (P : Params) : Obj := (Obj.mk .none none (Data.func (FuncData.mk "made_of" "made_of" (defArgs (top 29)) (FuncBody.stmts (defBody (top 29))) (defScope (top 29)) 0 [] .none .none .none .none none .none .none 0)) #[])
def o176_5 (P : Params) : Obj := (Obj.mk (.type "code") none (Data.fields #[(.str "made_of" 394), (.str "made_of" 395), (.str "/claim/cut.py" 396), (.int 98 0), (.int 3 0), (.int 0 0), (.int 0 0), (.int 3 0), (.ref 173), (.bool true), (.int 181 0), (.ref 174), .none, .none, .none, (.ref 175), (.int 397 0), (.int 98 0), (.str "/claim/cut.py" 398)]) #[])
def o177_5 (P : Params) : Obj := (Obj.mk (.type "function") none (Data.func (FuncData.mk "made_of" "made_of" (defArgs (top 29)) (FuncBody.stmts (defBody (top 29))) (defScope (top 29)) 3 [] .none .none .none (.str "spinboard.tables" 330) none (.ref 176) .none 0)) #[])
def o178_5 (P : Params) : Obj := (Obj.mk (.type "tuple") none (Data.seq #[] 0) #[])
def o179_5 (P : Params) : Obj := (Obj.mk .none none (Data.fields #[]) #[])
def o180_5 (P : Params) : Obj := (Obj.mk .none none (Data.func (FuncData.mk "rows_with" "rows_with" (defArgs (top 30)) (FuncBody.stmts (defBody (top 30))) (defScope (top 30)) 0 [] .none .none .none .none none .none .none 0)) #[])
def o181_5 (P : Params) : Obj := (Obj.mk (.type "code") none (Data.fields #[(.str "rows_with" 400), (.str "rows_with" 401), (.str "/claim/cut.py" 402), (.int 107 0), (.int 3 0), (.int 0 0), (.int 0 0), (.int 3 0), (.ref 178), (.bool true), (.int 181 0), (.ref 179), .none, .none, .none, (.ref 180), (.int 403 0), (.int 107 0), (.str "/claim/cut.py" 404)]) #[])
def o182_5 (P : Params) : Obj := (Obj.mk (.type "function") none (Data.func (FuncData.mk "rows_with" "rows_with" (defArgs (top 30)) (FuncBody.stmts (defBody (top 30))) (defScope (top 30)) 3 [] .none .none .none (.str "spinboard.tables" 330) none (.ref 181) .none 0)) #[])
def o183_5 (P : Params) : Obj := (Obj.mk (.type "tuple") none (Data.seq #[] 0) #[])
def o184_5 (P : Params) : Obj := (Obj.mk .none none (Data.fields #[]) #[])
def o185_5 (P : Params) : Obj := (Obj.mk (.type "tuple") none (Data.seq #[(.str "marks" 409), (.str "made" 410), (.str "mark" 411)] 0) #[])
def o186_5 (P : Params) : Obj := (Obj.mk (.type "tuple") none (Data.seq #[] 0) #[])
def o187_5 (P : Params) : Obj := (Obj.mk .none none (Data.func (FuncData.mk "product_of" "product_of" (defArgs (top 31)) (FuncBody.stmts (defBody (top 31))) (defScope (top 31)) 0 [] .none .none .none .none none .none .none 0)) #[])
def o188_5 (P : Params) : Obj := (Obj.mk (.type "code") none (Data.fields #[(.str "product_of" 406), (.str "product_of" 407), (.str "/claim/cut.py" 408), (.int 109 0), (.int 1 0), (.int 0 0), (.int 0 0), (.int 3 0), (.ref 183), (.bool true), (.int 181 0), (.ref 184), .none, (.ref 185), (.ref 186), (.ref 187), (.int 412 0), (.int 109 0), (.str "/claim/cut.py" 413)]) #[])
def o189_5 (P : Params) : Obj := (Obj.mk (.type "function") none (Data.func (FuncData.mk "product_of" "product_of" (defArgs (top 31)) (FuncBody.stmts (defBody (top 31))) (defScope (top 31)) 3 [] .none .none .none (.str "spinboard.tables" 330) none (.ref 188) .none 0)) #[])
def o190_5 (P : Params) : Obj := (Obj.mk (.type "tuple") none (Data.seq #[] 0) #[])
def o191_5 (P : Params) : Obj := (Obj.mk .none none (Data.fields #[]) #[])
def o192_5 (P : Params) : Obj := (Obj.mk .none none (Data.func (FuncData.mk "apart_by" "apart_by" (defArgs (top 32)) (FuncBody.stmts (defBody (top 32))) (defScope (top 32)) 0 [] .none .none .none .none none .none .none 0)) #[])
def o193_5 (P : Params) : Obj := (Obj.mk (.type "code") none (Data.fields #[(.str "apart_by" 415), (.str "apart_by" 416), (.str "/claim/cut.py" 417), (.int 114 0), (.int 2 0), (.int 0 0), (.int 0 0), (.int 3 0), (.ref 190), (.bool true), (.int 181 0), (.ref 191), .none, .none, .none, (.ref 192), (.int 418 0), (.int 114 0), (.str "/claim/cut.py" 419)]) #[])
def o194_5 (P : Params) : Obj := (Obj.mk (.type "function") none (Data.func (FuncData.mk "apart_by" "apart_by" (defArgs (top 32)) (FuncBody.stmts (defBody (top 32))) (defScope (top 32)) 3 [] .none .none .none (.str "spinboard.tables" 330) none (.ref 193) .none 0)) #[])
def o195_5 (P : Params) : Obj := (Obj.mk (.type "tuple") none (Data.seq #[] 0) #[])
def o196_5 (P : Params) : Obj := (Obj.mk .none none (Data.fields #[]) #[])
def o197_5 (P : Params) : Obj := (Obj.mk (.type "tuple") none (Data.seq #[(.str "_law_script" 426), (.str "_law_k" 427)] 0) #[])
def o198_5 (P : Params) : Obj := (Obj.mk (.type "tuple") none (Data.seq #[] 0) #[])
def o199_5 (P : Params) : Obj := (Obj.mk .none none (Data.func (FuncData.mk "_law_cell_at" "_law_cell_at" (defArgs (top 34)) (FuncBody.stmts (defBody (top 34))) (defScope (top 34)) 0 [] .none .none .none .none none .none .none 0)) #[])
def o200_5 (P : Params) : Obj := (Obj.mk (.type "code") none (Data.fields #[(.str "_law_cell_at" 423), (.str "_law_cell_at" 424), (.str "/claim/cut.py" 425), (.int 119 0), (.int 2 0), (.int 0 0), (.int 0 0), (.int 3 0), (.ref 195), (.bool true), (.int 181 0), (.ref 196), .none, (.ref 197), (.ref 198), (.ref 199), (.int 428 0), (.int 119 0), (.str "/claim/cut.py" 429)]) #[])
def o201_5 (P : Params) : Obj := (Obj.mk (.type "function") none (Data.func (FuncData.mk "_law_cell_at" "_law_cell_at" (defArgs (top 34)) (FuncBody.stmts (defBody (top 34))) (defScope (top 34)) 3 [] .none .none .none (.str "law_spinboard_k53_reduced" 421) none (.ref 200) .none 0)) #[])
def o202_5 (P : Params) : Obj := (Obj.mk (.type "tuple") none (Data.seq #[] 0) #[])
def o203_5 (P : Params) : Obj := (Obj.mk .none none (Data.fields #[]) #[])
def o204_5 (P : Params) : Obj := (Obj.mk (.type "tuple") none (Data.seq #[(.str "_law_found" 434)] 0) #[])
def o205_5 (P : Params) : Obj := (Obj.mk (.type "tuple") none (Data.seq #[] 0) #[])
def o206_5 (P : Params) : Obj := (Obj.mk .none none (Data.func (FuncData.mk "_law_whole" "_law_whole" (defArgs (top 35)) (FuncBody.stmts (defBody (top 35))) (defScope (top 35)) 0 [] .none .none .none .none none .none .none 0)) #[])
def o207_5 (P : Params) : Obj := (Obj.mk (.type "code") none (Data.fields #[(.str "_law_whole" 431), (.str "_law_whole" 432), (.str "/claim/cut.py" 433), (.int 123 0), (.int 1 0), (.int 0 0), (.int 0 0), (.int 3 0), (.ref 202), (.bool true), (.int 181 0), (.ref 203), .none, (.ref 204), (.ref 205), (.ref 206), (.int 435 0), (.int 123 0), (.str "/claim/cut.py" 436)]) #[])
def o208_5 (P : Params) : Obj := (Obj.mk (.type "function") none (Data.func (FuncData.mk "_law_whole" "_law_whole" (defArgs (top 35)) (FuncBody.stmts (defBody (top 35))) (defScope (top 35)) 3 [] .none .none .none (.str "law_spinboard_k53_reduced" 421) none (.ref 207) .none 0)) #[])
def o209_5 (P : Params) : Obj := (Obj.mk (.type "tuple") none (Data.seq #[] 0) #[])
def o210_5 (P : Params) : Obj := (Obj.mk .none none (Data.fields #[]) #[])
def o211_5 (P : Params) : Obj := (Obj.mk (.type "tuple") none (Data.seq #[(.str "_law_number" 441), (.str "_law_found" 442)] 0) #[])
def o212_5 (P : Params) : Obj := (Obj.mk (.type "tuple") none (Data.seq #[] 0) #[])
def o213_5 (P : Params) : Obj := (Obj.mk .none none (Data.func (FuncData.mk "_law_ones" "_law_ones" (defArgs (top 36)) (FuncBody.stmts (defBody (top 36))) (defScope (top 36)) 0 [] .none .none .none .none none .none .none 0)) #[])
def o214_5 (P : Params) : Obj := (Obj.mk (.type "code") none (Data.fields #[(.str "_law_ones" 438), (.str "_law_ones" 439), (.str "/claim/cut.py" 440), (.int 125 0), (.int 1 0), (.int 0 0), (.int 0 0), (.int 3 0), (.ref 209), (.bool true), (.int 181 0), (.ref 210), .none, (.ref 211), (.ref 212), (.ref 213), (.int 443 0), (.int 125 0), (.str "/claim/cut.py" 444)]) #[])
def o215_5 (P : Params) : Obj := (Obj.mk (.type "function") none (Data.func (FuncData.mk "_law_ones" "_law_ones" (defArgs (top 36)) (FuncBody.stmts (defBody (top 36))) (defScope (top 36)) 3 [] .none .none .none (.str "law_spinboard_k53_reduced" 421) none (.ref 214) .none 0)) #[])
def o216_5 (P : Params) : Obj := (Obj.mk (.type "tuple") none (Data.seq #[] 0) #[])
def o217_5 (P : Params) : Obj := (Obj.mk .none none (Data.fields #[]) #[])
def o218_5 (P : Params) : Obj := (Obj.mk (.type "tuple") none (Data.seq #[(.str "_law_one" 449), (.str "_law_other_here" 450), (.str "_law_turns" 451)] 0) #[])
def o219_5 (P : Params) : Obj := (Obj.mk (.type "tuple") none (Data.seq #[] 0) #[])
def o220_5 (P : Params) : Obj := (Obj.mk .none none (Data.func (FuncData.mk "_law_product" "_law_product" (defArgs (top 37)) (FuncBody.stmts (defBody (top 37))) (defScope (top 37)) 0 [] .none .none .none .none none .none .none 0)) #[])
def o221_5 (P : Params) : Obj := (Obj.mk (.type "code") none (Data.fields #[(.str "_law_product" 446), (.str "_law_product" 447), (.str "/claim/cut.py" 448), (.int 131 0), (.int 2 0), (.int 0 0), (.int 0 0), (.int 3 0), (.ref 216), (.bool true), (.int 181 0), (.ref 217), .none, (.ref 218), (.ref 219), (.ref 220), (.int 452 0), (.int 131 0), (.str "/claim/cut.py" 453)]) #[])
def o222_5 (P : Params) : Obj := (Obj.mk (.type "function") none (Data.func (FuncData.mk "_law_product" "_law_product" (defArgs (top 37)) (FuncBody.stmts (defBody (top 37))) (defScope (top 37)) 3 [] .none .none .none (.str "law_spinboard_k53_reduced" 421) none (.ref 221) .none 0)) #[])
def o223_5 (P : Params) : Obj := (Obj.mk (.type "tuple") none (Data.seq #[] 0) #[])
def o224_5 (P : Params) : Obj := (Obj.mk .none none (Data.fields #[]) #[])
def o225_5 (P : Params) : Obj := (Obj.mk (.type "tuple") none (Data.seq #[(.str "_law_one" 458), (.str "_law_other_here" 459)] 0) #[])
def o226_5 (P : Params) : Obj := (Obj.mk (.type "tuple") none (Data.seq #[] 0) #[])
def o227_5 (P : Params) : Obj := (Obj.mk .none none (Data.func (FuncData.mk "_law_commute" "_law_commute" (defArgs (top 38)) (FuncBody.stmts (defBody (top 38))) (defScope (top 38)) 0 [] .none .none .none .none none .none .none 0)) #[])
def o228_5 (P : Params) : Obj := (Obj.mk (.type "code") none (Data.fields #[(.str "_law_commute" 455), (.str "_law_commute" 456), (.str "/claim/cut.py" 457), (.int 134 0), (.int 2 0), (.int 0 0), (.int 0 0), (.int 3 0), (.ref 223), (.bool true), (.int 181 0), (.ref 224), .none, (.ref 225), (.ref 226), (.ref 227), (.int 460 0), (.int 134 0), (.str "/claim/cut.py" 461)]) #[])
def o229_5 (P : Params) : Obj := (Obj.mk (.type "function") none (Data.func (FuncData.mk "_law_commute" "_law_commute" (defArgs (top 38)) (FuncBody.stmts (defBody (top 38))) (defScope (top 38)) 3 [] .none .none .none (.str "law_spinboard_k53_reduced" 421) none (.ref 228) .none 0)) #[])
def o230_5 (P : Params) : Obj := (Obj.mk (.type "tuple") none (Data.seq #[] 0) #[])
def o231_5 (P : Params) : Obj := (Obj.mk .none none (Data.fields #[]) #[])
def o232_5 (P : Params) : Obj := (Obj.mk (.type "tuple") none (Data.seq #[(.str "_law_cell" 466), (.str "_law_cells" 467), (.str "_law_mixed" 468), (.str "_law_f" 469), (.str "_law_s" 470)] 0) #[])
def o233_5 (P : Params) : Obj := (Obj.mk (.type "tuple") none (Data.seq #[] 0) #[])
def o234_5 (P : Params) : Obj := (Obj.mk .none none (Data.func (FuncData.mk "_law_even_mark" "_law_even_mark" (defArgs (top 39)) (FuncBody.stmts (defBody (top 39))) (defScope (top 39)) 0 [] .none .none .none .none none .none .none 0)) #[])
def o235_5 (P : Params) : Obj := (Obj.mk (.type "code") none (Data.fields #[(.str "_law_even_mark" 463), (.str "_law_even_mark" 464), (.str "/claim/cut.py" 465), (.int 136 0), (.int 2 0), (.int 0 0), (.int 0 0), (.int 3 0), (.ref 230), (.bool true), (.int 181 0), (.ref 231), .none, (.ref 232), (.ref 233), (.ref 234), (.int 471 0), (.int 136 0), (.str "/claim/cut.py" 472)]) #[])
def o236_5 (P : Params) : Obj := (Obj.mk (.type "function") none (Data.func (FuncData.mk "_law_even_mark" "_law_even_mark" (defArgs (top 39)) (FuncBody.stmts (defBody (top 39))) (defScope (top 39)) 3 [] .none .none .none (.str "law_spinboard_k53_reduced" 421) none (.ref 235) .none 0)) #[])
def T4 (P : Params) : BT := ((((((((((((((((((((((((((((((((((((((((((((((((((((((((((((((((((((((((((((((((((((((((T3 P).ins 3 (o3_5 P)).ins 12 (o12_5 P)).ins 152 (o152_5 P)).ins 153 (o153_5 P)).ins 154 (o154_5 P)).ins 155 (o155_5 P)).ins 156 (o156_5 P)).ins 157 (o157_5 P)).ins 158 (o158_5 P)).ins 159 (o159_5 P)).ins 160 (o160_5 P)).ins 161 (o161_5 P)).ins 162 (o162_5 P)).ins 163 (o163_5 P)).ins 164 (o164_5 P)).ins 165 (o165_5 P)).ins 166 (o166_5 P)).ins 167 (o167_5 P)).ins 168 (o168_5 P)).ins 169 (o169_5 P)).ins 170 (o170_5 P)).ins 171 (o171_5 P)).ins 172 (o172_5 P)).ins 173 (o173_5 P)).ins 174 (o174_5 P)).ins 175 (o175_5 P)).ins 176 (o176_5 P)).ins 177 (o177_5 P)).ins 178 (o178_5 P)).ins 179 (o179_5 P)).ins 180 (o180_5 P)).ins 181 (o181_5 P)).ins 182 (o182_5 P)).ins 183 (o183_5 P)).ins 184 (o184_5 P)).ins 185 (o185_5 P)).ins 186 (o186_5 P)).ins 187 (o187_5 P)).ins 188 (o188_5 P)).ins 189 (o189_5 P)).ins 190 (o190_5 P)).ins 191 (o191_5 P)).ins 192 (o192_5 P)).ins 193 (o193_5 P)).ins 194 (o194_5 P)).ins 195 (o195_5 P)).ins 196 (o196_5 P)).ins 197 (o197_5 P)).ins 198 (o198_5 P)).ins 199 (o199_5 P)).ins 200 (o200_5 P)).ins 201 (o201_5 P)).ins 202 (o202_5 P)).ins 203 (o203_5 P)).ins 204 (o204_5 P)).ins 205 (o205_5 P)).ins 206 (o206_5 P)).ins 207 (o207_5 P)).ins 208 (o208_5 P)).ins 209 (o209_5 P)).ins 210 (o210_5 P)).ins 211 (o211_5 P)).ins 212 (o212_5 P)).ins 213 (o213_5 P)).ins 214 (o214_5 P)).ins 215 (o215_5 P)).ins 216 (o216_5 P)).ins 217 (o217_5 P)).ins 218 (o218_5 P)).ins 219 (o219_5 P)).ins 220 (o220_5 P)).ins 221 (o221_5 P)).ins 222 (o222_5 P)).ins 223 (o223_5 P)).ins 224 (o224_5 P)).ins 225 (o225_5 P)).ins 226 (o226_5 P)).ins 227 (o227_5 P)).ins 228 (o228_5 P)).ins 229 (o229_5 P)).ins 230 (o230_5 P)).ins 231 (o231_5 P)).ins 232 (o232_5 P)).ins 233 (o233_5 P)).ins 234 (o234_5 P)).ins 235 (o235_5 P)).ins 236 (o236_5 P))
theorem g3 (p : Program) (b : List Stmt) (w : World) (os : OsState) : segRunT treeTable p w 11 (some (.ref 6)) 1 390 (SharedT.mk (T3 w.params) 152 life (Array.mk []) (Drawn.mk 0 0 0 0) 372 os) (piecesOf l3 en (Code.body b en) (Pos.mk 86 0 87 71) BB) = some (Flow.next, (SharedT.mk (T4 w.params) 237 life (Array.mk []) (Drawn.mk 0 0 0 0) 474 os), Code.body b en, (Pos.mk 136 0 140 84)) := by rw [PySem.W.Fast.te10110043849684766642, PySem.W.Fast.te14364793385576792824]; kernel_rfl
def o3_6 (P : Params) : Obj := Obj.mk (.type "dict") none (Data.dict #[(DictEntry.mk (kh P "__name__") (.str "__name__" 165) (.str "law_spinboard_k53_reduced" 421)), (DictEntry.mk (kh P "__doc__") (.str "__doc__" 166) .none), (DictEntry.mk (kh P "__package__") (.str "__package__" 167) .none), (DictEntry.mk (kh P "__loader__") (.str "__loader__" 168) (.builtin "__main__.__loader__#opaque")), (DictEntry.mk (kh P "__spec__") (.str "__spec__" 169) .none), (DictEntry.mk (kh P "__annotations__") (.str "__annotations__" 170) (.ref 6)), (DictEntry.mk (kh P "__builtins__") (.str "__builtins__" 171) (.ref 4)), (DictEntry.mk (kh P "__file__") (.str "__file__" 173) (.str "/claim/cut.py" 172)), (DictEntry.mk (kh P "__cached__") (.str "__cached__" 174) .none), (DictEntry.mk (kh P "BoardError") (.str "BoardError" 206) (.ref 24)), (DictEntry.mk (kh P "NoTable") (.str "NoTable" 222) (.ref 37)), (DictEntry.mk (kh P "is_whole") (.str "is_whole" 231) (.ref 46)), (DictEntry.mk (kh P "ones") (.str "ones" 242) (.ref 53)), (DictEntry.mk (kh P "is_word") (.str "is_word" 250) (.ref 60)), (DictEntry.mk (kh P "is_mark") (.str "is_mark" 258) (.ref 67)), (DictEntry.mk (kh P "is_even") (.str "is_even" 265) (.ref 74)), (DictEntry.mk (kh P "is_even_mark") (.str "is_even_mark" 273) (.ref 81)), (DictEntry.mk (kh P "commute") (.str "commute" 281) (.ref 88)), (DictEntry.mk (kh P "product") (.str "product" 290) (.ref 95)), (DictEntry.mk (kh P "solved") (.str "solved" 303) (.ref 102)), (DictEntry.mk (kh P "cleared") (.str "cleared" 313) (.ref 109)), (DictEntry.mk (kh P "places_at_one") (.str "places_at_one" 319) (.ref 114)), (DictEntry.mk (kh P "solution") (.str "solution" 329) (.ref 121)), (DictEntry.mk (kh P "PRODUCT_OF_NONE") (.str "PRODUCT_OF_NONE" 335) (.ref 122)), (DictEntry.mk (kh P "FIRST_SIGN_LEAD") (.str "FIRST_SIGN_LEAD" 337) (.int 6 336)), (DictEntry.mk (kh P "is_table") (.str "is_table" 343) (.ref 127)), (DictEntry.mk (kh P "commutes_with_all") (.str "commutes_with_all" 349) (.ref 132)), (DictEntry.mk (kh P "check_table") (.str "check_table" 357) (.ref 139)), (DictEntry.mk (kh P "reduced") (.str "reduced" 363) (.ref 144)), (DictEntry.mk (kh P "without_lead") (.str "without_lead" 371) (.ref 151)), (DictEntry.mk (kh P "lead") (.str "lead" 378) (.ref 158)), (DictEntry.mk (kh P "least_cell") (.str "least_cell" 385) (.ref 165)), (DictEntry.mk (kh P "has_at_lead") (.str "has_at_lead" 393) (.ref 172)), (DictEntry.mk (kh P "made_of") (.str "made_of" 399) (.ref 177)), (DictEntry.mk (kh P "rows_with") (.str "rows_with" 405) (.ref 182)), (DictEntry.mk (kh P "product_of") (.str "product_of" 414) (.ref 189)), (DictEntry.mk (kh P "apart_by") (.str "apart_by" 420) (.ref 194)), (DictEntry.mk (kh P "_law_cell_at") (.str "_law_cell_at" 430) (.ref 201)), (DictEntry.mk (kh P "_law_whole") (.str "_law_whole" 437) (.ref 208)), (DictEntry.mk (kh P "_law_ones") (.str "_law_ones" 445) (.ref 215)), (DictEntry.mk (kh P "_law_product") (.str "_law_product" 454) (.ref 222)), (DictEntry.mk (kh P "_law_commute") (.str "_law_commute" 462) (.ref 229)), (DictEntry.mk (kh P "_law_even_mark") (.str "_law_even_mark" 473) (.ref 236)), (DictEntry.mk (kh P "_law_taken") (.str "_law_taken" 483) (.ref 243)), (DictEntry.mk (kh P "_law_table") (.str "_law_table" 499) (.ref 250)), (DictEntry.mk (kh P "_law_other") (.str "_law_other" 512) (.ref 257)), (DictEntry.mk (kh P "_law_lead") (.str "_law_lead" 520) (.ref 264)), (DictEntry.mk (kh P "_law_has") (.str "_law_has" 528) (.ref 271)), (DictEntry.mk (kh P "_law_shape") (.str "_law_shape" 537) (.ref 278)), (DictEntry.mk (kh P "_law_is_reduced") (.str "_law_is_reduced" 549) (.ref 285)), (DictEntry.mk (kh P "law") (.str "law" 565) (.ref 292))] 51) #[]
def o12_6 (P : Params) : Obj := (Obj.mk .none none (Data.fields #[(.int 2 0), (.int 0 0), (.ref 20), (.int 4 0), (.int 0 0), (.ref 33), (.int 7 0), (.int 0 0), (.ref 45), (.int 10 0), (.int 0 0), (.ref 52), (.int 17 0), (.int 0 0), (.ref 59), (.int 21 0), (.int 0 0), (.ref 66), (.int 27 0), (.int 0 0), (.ref 73), (.int 29 0), (.int 0 0), (.ref 80), (.int 31 0), (.int 0 0), (.ref 87), (.int 33 0), (.int 0 0), (.ref 94), (.int 37 0), (.int 0 0), (.ref 101), (.int 46 0), (.int 0 0), (.ref 108), (.int 52 0), (.int 0 0), (.ref 113), (.int 54 0), (.int 0 0), (.ref 120), (.int 64 0), (.int 0 0), (.ref 126), (.int 72 0), (.int 0 0), (.ref 131), (.int 74 0), (.int 0 0), (.ref 138), (.int 77 0), (.int 0 0), (.ref 143), (.int 86 0), (.int 0 0), (.ref 150), (.int 88 0), (.int 0 0), (.ref 157), (.int 92 0), (.int 0 0), (.ref 164), (.int 94 0), (.int 0 0), (.ref 171), (.int 98 0), (.int 0 0), (.ref 176), (.int 107 0), (.int 0 0), (.ref 181), (.int 109 0), (.int 0 0), (.ref 188), (.int 114 0), (.int 0 0), (.ref 193), (.int 119 0), (.int 0 0), (.ref 200), (.int 123 0), (.int 0 0), (.ref 207), (.int 125 0), (.int 0 0), (.ref 214), (.int 131 0), (.int 0 0), (.ref 221), (.int 134 0), (.int 0 0), (.ref 228), (.int 136 0), (.int 0 0), (.ref 235), (.int 141 0), (.int 0 0), (.ref 242), (.int 146 0), (.int 0 0), (.ref 249), (.int 157 0), (.int 0 0), (.ref 256), (.int 166 0), (.int 0 0), (.ref 263), (.int 174 0), (.int 0 0), (.ref 270), (.int 178 0), (.int 0 0), (.ref 277), (.int 187 0), (.int 0 0), (.ref 284), (.int 198 0), (.int 0 0), (.ref 291)]) #[])
def o237_6 (P : Params) : Obj := (Obj.mk (.type "tuple") none (Data.seq #[] 0) #[])
def o238_6 (P : Params) : Obj := (Obj.mk .none none (Data.fields #[]) #[])
def o239_6 (P : Params) : Obj := (Obj.mk (.type "tuple") none (Data.seq #[(.str "_law_rows" 477), (.str "_law_marks" 478), (.str "_law_mark" 479), (.str "_law_row" 480)] 0) #[])
def o240_6 (P : Params) : Obj := (Obj.mk (.type "tuple") none (Data.seq #[] 0) #[])
def o241_6 (P : Params) : Obj := (Obj.mk .none none (Data.func (FuncData.mk "_law_taken" "_law_taken" (defArgs (top 40)) (FuncBody.stmts (defBody (top 40))) (defScope (top 40)) 0 [] .none .none .none .none none .none .none 0)) #[])
def o242_6 (P : Params) : Obj := (Obj.mk (.type "code") none (Data.fields #[(.str "_law_taken" 474), (.str "_law_taken" 475), (.str "/claim/cut.py" 476), (.int 141 0), (.int 3 0), (.int 0 0), (.int 0 0), (.int 3 0), (.ref 237), (.bool true), (.int 181 0), (.ref 238), .none, (.ref 239), (.ref 240), (.ref 241), (.int 481 0), (.int 141 0), (.str "/claim/cut.py" 482)]) #[])
def o243_6 (P : Params) : Obj := (Obj.mk (.type "function") none (Data.func (FuncData.mk "_law_taken" "_law_taken" (defArgs (top 40)) (FuncBody.stmts (defBody (top 40))) (defScope (top 40)) 3 [] .none .none .none (.str "law_spinboard_k53_reduced" 421) none (.ref 242) .none 0)) #[])
def o244_6 (P : Params) : Obj := (Obj.mk (.type "tuple") none (Data.seq #[] 0) #[])
def o245_6 (P : Params) : Obj := (Obj.mk .none none (Data.fields #[]) #[])
def o246_6 (P : Params) : Obj := (Obj.mk (.type "tuple") none (Data.seq #[(.str "_law_drawn" 487), (.str "_law_cells" 488), (.str "_law_most" 489), (.str "_law_rows" 490), (.str "_law_marks" 491), (.str "_law_cell" 492), (.str "_law_mark" 493), (.str "_law_f" 494), (.str "_law_s" 495), (.str "_law_made" 496)] 0) #[])
def o247_6 (P : Params) : Obj := (Obj.mk (.type "tuple") none (Data.seq #[] 0) #[])
def o248_6 (P : Params) : Obj := (Obj.mk .none none (Data.func (FuncData.mk "_law_table" "_law_table" (defArgs (top 41)) (FuncBody.stmts (defBody (top 41))) (defScope (top 41)) 0 [] .none .none .none .none none .none .none 0)) #[])
def o249_6 (P : Params) : Obj := (Obj.mk (.type "code") none (Data.fields #[(.str "_law_table" 484), (.str "_law_table" 485), (.str "/claim/cut.py" 486), (.int 146 0), (.int 3 0), (.int 0 0), (.int 0 0), (.int 3 0), (.ref 244), (.bool true), (.int 181 0), (.ref 245), .none, (.ref 246), (.ref 247), (.ref 248), (.int 497 0), (.int 146 0), (.str "/claim/cut.py" 498)]) #[])
def o250_6 (P : Params) : Obj := (Obj.mk (.type "function") none (Data.func (FuncData.mk "_law_table" "_law_table" (defArgs (top 41)) (FuncBody.stmts (defBody (top 41))) (defScope (top 41)) 3 [] .none .none .none (.str "law_spinboard_k53_reduced" 421) none (.ref 249) .none 0)) #[])
def o251_6 (P : Params) : Obj := (Obj.mk (.type "tuple") none (Data.seq #[] 0) #[])
def o252_6 (P : Params) : Obj := (Obj.mk .none none (Data.fields #[]) #[])
def o253_6 (P : Params) : Obj := (Obj.mk (.type "tuple") none (Data.seq #[(.str "_law_rows" 503), (.str "_law_far" 504), (.str "_law_found" 505), (.str "_law_k" 506), (.str "_law_step" 507), (.str "_law_to" 508), (.str "_law_other_here" 509)] 0) #[])
def o254_6 (P : Params) : Obj := (Obj.mk (.type "tuple") none (Data.seq #[] 0) #[])
def o255_6 (P : Params) : Obj := (Obj.mk .none none (Data.func (FuncData.mk "_law_other" "_law_other" (defArgs (top 42)) (FuncBody.stmts (defBody (top 42))) (defScope (top 42)) 0 [] .none .none .none .none none .none .none 0)) #[])
def o256_6 (P : Params) : Obj := (Obj.mk (.type "code") none (Data.fields #[(.str "_law_other" 500), (.str "_law_other" 501), (.str "/claim/cut.py" 502), (.int 157 0), (.int 2 0), (.int 0 0), (.int 0 0), (.int 3 0), (.ref 251), (.bool true), (.int 181 0), (.ref 252), .none, (.ref 253), (.ref 254), (.ref 255), (.int 510 0), (.int 157 0), (.str "/claim/cut.py" 511)]) #[])
def o257_6 (P : Params) : Obj := (Obj.mk (.type "function") none (Data.func (FuncData.mk "_law_other" "_law_other" (defArgs (top 42)) (FuncBody.stmts (defBody (top 42))) (defScope (top 42)) 3 [] .none .none .none (.str "law_spinboard_k53_reduced" 421) none (.ref 256) .none 0)) #[])
def o258_6 (P : Params) : Obj := (Obj.mk (.type "tuple") none (Data.seq #[] 0) #[])
def o259_6 (P : Params) : Obj := (Obj.mk .none none (Data.fields #[]) #[])
def o260_6 (P : Params) : Obj := (Obj.mk (.type "tuple") none (Data.seq #[(.str "_law_mark" 516), (.str "_law_cell" 517)] 0) #[])
def o261_6 (P : Params) : Obj := (Obj.mk (.type "tuple") none (Data.seq #[] 0) #[])
def o262_6 (P : Params) : Obj := (Obj.mk .none none (Data.func (FuncData.mk "_law_lead" "_law_lead" (defArgs (top 43)) (FuncBody.stmts (defBody (top 43))) (defScope (top 43)) 0 [] .none .none .none .none none .none .none 0)) #[])
def o263_6 (P : Params) : Obj := (Obj.mk (.type "code") none (Data.fields #[(.str "_law_lead" 513), (.str "_law_lead" 514), (.str "/claim/cut.py" 515), (.int 166 0), (.int 1 0), (.int 0 0), (.int 0 0), (.int 3 0), (.ref 258), (.bool true), (.int 181 0), (.ref 259), .none, (.ref 260), (.ref 261), (.ref 262), (.int 518 0), (.int 166 0), (.str "/claim/cut.py" 519)]) #[])
def o264_6 (P : Params) : Obj := (Obj.mk (.type "function") none (Data.func (FuncData.mk "_law_lead" "_law_lead" (defArgs (top 43)) (FuncBody.stmts (defBody (top 43))) (defScope (top 43)) 3 [] .none .none .none (.str "law_spinboard_k53_reduced" 421) none (.ref 263) .none 0)) #[])
def o265_6 (P : Params) : Obj := (Obj.mk (.type "tuple") none (Data.seq #[] 0) #[])
def o266_6 (P : Params) : Obj := (Obj.mk .none none (Data.fields #[]) #[])
def o267_6 (P : Params) : Obj := (Obj.mk (.type "tuple") none (Data.seq #[(.str "_law_mark" 524), (.str "_law_lead_here" 525)] 0) #[])
def o268_6 (P : Params) : Obj := (Obj.mk (.type "tuple") none (Data.seq #[] 0) #[])
def o269_6 (P : Params) : Obj := (Obj.mk .none none (Data.func (FuncData.mk "_law_has" "_law_has" (defArgs (top 44)) (FuncBody.stmts (defBody (top 44))) (defScope (top 44)) 0 [] .none .none .none .none none .none .none 0)) #[])
def o270_6 (P : Params) : Obj := (Obj.mk (.type "code") none (Data.fields #[(.str "_law_has" 521), (.str "_law_has" 522), (.str "/claim/cut.py" 523), (.int 174 0), (.int 2 0), (.int 0 0), (.int 0 0), (.int 3 0), (.ref 265), (.bool true), (.int 181 0), (.ref 266), .none, (.ref 267), (.ref 268), (.ref 269), (.int 526 0), (.int 174 0), (.str "/claim/cut.py" 527)]) #[])
def o271_6 (P : Params) : Obj := (Obj.mk (.type "function") none (Data.func (FuncData.mk "_law_has" "_law_has" (defArgs (top 44)) (FuncBody.stmts (defBody (top 44))) (defScope (top 44)) 3 [] .none .none .none (.str "law_spinboard_k53_reduced" 421) none (.ref 270) .none 0)) #[])
def o272_6 (P : Params) : Obj := (Obj.mk (.type "tuple") none (Data.seq #[] 0) #[])
def o273_6 (P : Params) : Obj := (Obj.mk .none none (Data.fields #[]) #[])
def o274_6 (P : Params) : Obj := (Obj.mk (.type "tuple") none (Data.seq #[(.str "_law_found" 532), (.str "_law_many" 533), (.str "_law_mark" 534)] 0) #[])
def o275_6 (P : Params) : Obj := (Obj.mk (.type "tuple") none (Data.seq #[] 0) #[])
def o276_6 (P : Params) : Obj := (Obj.mk .none none (Data.func (FuncData.mk "_law_shape" "_law_shape" (defArgs (top 45)) (FuncBody.stmts (defBody (top 45))) (defScope (top 45)) 0 [] .none .none .none .none none .none .none 0)) #[])
def o277_6 (P : Params) : Obj := (Obj.mk (.type "code") none (Data.fields #[(.str "_law_shape" 529), (.str "_law_shape" 530), (.str "/claim/cut.py" 531), (.int 178 0), (.int 2 0), (.int 0 0), (.int 0 0), (.int 3 0), (.ref 272), (.bool true), (.int 181 0), (.ref 273), .none, (.ref 274), (.ref 275), (.ref 276), (.int 535 0), (.int 178 0), (.str "/claim/cut.py" 536)]) #[])
def o278_6 (P : Params) : Obj := (Obj.mk (.type "function") none (Data.func (FuncData.mk "_law_shape" "_law_shape" (defArgs (top 45)) (FuncBody.stmts (defBody (top 45))) (defScope (top 45)) 3 [] .none .none .none (.str "law_spinboard_k53_reduced" 421) none (.ref 277) .none 0)) #[])
def o279_6 (P : Params) : Obj := (Obj.mk (.type "tuple") none (Data.seq #[] 0) #[])
def o280_6 (P : Params) : Obj := (Obj.mk .none none (Data.fields #[]) #[])
def o281_6 (P : Params) : Obj := (Obj.mk (.type "tuple") none (Data.seq #[(.str "_law_found" 541), (.str "_law_marks" 542), (.str "_law_last" 543), (.str "_law_place" 544), (.str "_law_mark" 545), (.str "_law_other_here" 546)] 0) #[])
def o282_6 (P : Params) : Obj := (Obj.mk (.type "tuple") none (Data.seq #[] 0) #[])
def o283_6 (P : Params) : Obj := (Obj.mk .none none (Data.func (FuncData.mk "_law_is_reduced" "_law_is_reduced" (defArgs (top 46)) (FuncBody.stmts (defBody (top 46))) (defScope (top 46)) 0 [] .none .none .none .none none .none .none 0)) #[])
def o284_6 (P : Params) : Obj := (Obj.mk (.type "code") none (Data.fields #[(.str "_law_is_reduced" 538), (.str "_law_is_reduced" 539), (.str "/claim/cut.py" 540), (.int 187 0), (.int 2 0), (.int 0 0), (.int 0 0), (.int 3 0), (.ref 279), (.bool true), (.int 181 0), (.ref 280), .none, (.ref 281), (.ref 282), (.ref 283), (.int 547 0), (.int 187 0), (.str "/claim/cut.py" 548)]) #[])
def o285_6 (P : Params) : Obj := (Obj.mk (.type "function") none (Data.func (FuncData.mk "_law_is_reduced" "_law_is_reduced" (defArgs (top 46)) (FuncBody.stmts (defBody (top 46))) (defScope (top 46)) 3 [] .none .none .none (.str "law_spinboard_k53_reduced" 421) none (.ref 284) .none 0)) #[])
def o286_6 (P : Params) : Obj := (Obj.mk (.type "tuple") none (Data.seq #[] 0) #[])
def o287_6 (P : Params) : Obj := (Obj.mk .none none (Data.fields #[]) #[])
def o288_6 (P : Params) : Obj := (Obj.mk (.type "tuple") none (Data.seq #[(.str "_law_script" 553), (.str "_law_head" 554), (.str "_law_cells" 555), (.str "_law_rows" 556), (.str "_law_marks" 557), (.str "_law_others" 558), (.str "_law_kept" 559), (.str "_law_found" 560), (.str "_law_due" 561), (.str "_law_again" 562)] 0) #[])
def o289_6 (P : Params) : Obj := (Obj.mk (.type "tuple") none (Data.seq #[] 0) #[])
def o290_6 (P : Params) : Obj := (Obj.mk .none none (Data.func (FuncData.mk "law" "law" (defArgs (top 47)) (FuncBody.stmts (defBody (top 47))) (defScope (top 47)) 0 [] .none .none .none .none none .none .none 0)) #[])
def o291_6 (P : Params) : Obj := (Obj.mk (.type "code") none (Data.fields #[(.str "law" 550), (.str "law" 551), (.str "/claim/cut.py" 552), (.int 198 0), (.int 1 0), (.int 0 0), (.int 0 0), (.int 3 0), (.ref 286), (.bool true), (.int 181 0), (.ref 287), .none, (.ref 288), (.ref 289), (.ref 290), (.int 563 0), (.int 198 0), (.str "/claim/cut.py" 564)]) #[])
def o292_6 (P : Params) : Obj := (Obj.mk (.type "function") none (Data.func (FuncData.mk "law" "law" (defArgs (top 47)) (FuncBody.stmts (defBody (top 47))) (defScope (top 47)) 3 [] .none .none .none (.str "law_spinboard_k53_reduced" 421) none (.ref 291) .none 0)) #[])
def T5 (P : Params) : BT := (((((((((((((((((((((((((((((((((((((((((((((((((((((((((((T4 P).ins 3 (o3_6 P)).ins 12 (o12_6 P)).ins 237 (o237_6 P)).ins 238 (o238_6 P)).ins 239 (o239_6 P)).ins 240 (o240_6 P)).ins 241 (o241_6 P)).ins 242 (o242_6 P)).ins 243 (o243_6 P)).ins 244 (o244_6 P)).ins 245 (o245_6 P)).ins 246 (o246_6 P)).ins 247 (o247_6 P)).ins 248 (o248_6 P)).ins 249 (o249_6 P)).ins 250 (o250_6 P)).ins 251 (o251_6 P)).ins 252 (o252_6 P)).ins 253 (o253_6 P)).ins 254 (o254_6 P)).ins 255 (o255_6 P)).ins 256 (o256_6 P)).ins 257 (o257_6 P)).ins 258 (o258_6 P)).ins 259 (o259_6 P)).ins 260 (o260_6 P)).ins 261 (o261_6 P)).ins 262 (o262_6 P)).ins 263 (o263_6 P)).ins 264 (o264_6 P)).ins 265 (o265_6 P)).ins 266 (o266_6 P)).ins 267 (o267_6 P)).ins 268 (o268_6 P)).ins 269 (o269_6 P)).ins 270 (o270_6 P)).ins 271 (o271_6 P)).ins 272 (o272_6 P)).ins 273 (o273_6 P)).ins 274 (o274_6 P)).ins 275 (o275_6 P)).ins 276 (o276_6 P)).ins 277 (o277_6 P)).ins 278 (o278_6 P)).ins 279 (o279_6 P)).ins 280 (o280_6 P)).ins 281 (o281_6 P)).ins 282 (o282_6 P)).ins 283 (o283_6 P)).ins 284 (o284_6 P)).ins 285 (o285_6 P)).ins 286 (o286_6 P)).ins 287 (o287_6 P)).ins 288 (o288_6 P)).ins 289 (o289_6 P)).ins 290 (o290_6 P)).ins 291 (o291_6 P)).ins 292 (o292_6 P))
theorem g4 (p : Program) (b : List Stmt) (w : World) (os : OsState) : segRunT treeTable p w 11 (some (.ref 6)) 1 269 (SharedT.mk (T4 w.params) 237 life (Array.mk []) (Drawn.mk 0 0 0 0) 474 os) (piecesOf l4 en (Code.body b en) (Pos.mk 136 0 140 84) BB) = some (Flow.next, (SharedT.mk (T5 w.params) 293 life (Array.mk []) (Drawn.mk 0 0 0 0) 566 os), Code.body b en, (Pos.mk 198 0 212 117)) := by rw [PySem.W.Fast.te10110043849684766642, PySem.W.Fast.te14364793385576792824]; kernel_rfl
def Hf (P : Params) : Heap := Heap.mk (Array.mk [(boot_o_0 P), (boot_o_1 P), (boot_o_2 P), (o3_6 P), (boot_o_4 P), (boot_o_5 P), (boot_o_6 P), (boot_o_7 P), (boot_o_8 P), (boot_o_9 P), (boot_o_10 P), (o11_0 P), (o12_6 P), (o13_0 P), (o14_0 P), (o15_2 P), (o16_2 P), (o17_2 P), (o18_2 P), (o19_2 P), (o20_2 P), (o21_2 P), (o22_2 P), (o23_2 P), (o24_3 P), (o25_2 P), (o26_2 P), (o27_2 P), (o28_3 P), (o29_3 P), (o30_3 P), (o31_3 P), (o32_3 P), (o33_3 P), (o34_3 P), (o35_3 P), (o36_3 P), (o37_3 P), (o38_3 P), (o39_3 P), (o40_3 P), (o41_3 P), (o42_3 P), (o43_3 P), (o44_3 P), (o45_3 P), (o46_3 P), (o47_3 P), (o48_3 P), (o49_3 P), (o50_3 P), (o51_3 P), (o52_3 P), (o53_3 P), (o54_3 P), (o55_3 P), (o56_3 P), (o57_3 P), (o58_3 P), (o59_3 P), (o60_3 P), (o61_3 P), (o62_3 P), (o63_3 P), (o64_3 P), (o65_3 P), (o66_3 P), (o67_3 P), (o68_3 P), (o69_3 P), (o70_3 P), (o71_3 P), (o72_3 P), (o73_3 P), (o74_3 P), (o75_4 P), (o76_4 P), (o77_4 P), (o78_4 P), (o79_4 P), (o80_4 P), (o81_4 P), (o82_4 P), (o83_4 P), (o84_4 P), (o85_4 P), (o86_4 P), (o87_4 P), (o88_4 P), (o89_4 P), (o90_4 P), (o91_4 P), (o92_4 P), (o93_4 P), (o94_4 P), (o95_4 P), (o96_4 P), (o97_4 P), (o98_4 P), (o99_4 P), (o100_4 P), (o101_4 P), (o102_4 P), (o103_4 P), (o104_4 P), (o105_4 P), (o106_4 P), (o107_4 P), (o108_4 P), (o109_4 P), (o110_4 P), (o111_4 P), (o112_4 P), (o113_4 P), (o114_4 P), (o115_4 P), (o116_4 P), (o117_4 P), (o118_4 P), (o119_4 P), (o120_4 P), (o121_4 P), (o122_4 P), (o123_4 P), (o124_4 P), (o125_4 P), (o126_4 P), (o127_4 P), (o128_4 P), (o129_4 P), (o130_4 P), (o131_4 P), (o132_4 P), (o133_4 P), (o134_4 P), (o135_4 P), (o136_4 P), (o137_4 P), (o138_4 P), (o139_4 P), (o140_4 P), (o141_4 P), (o142_4 P), (o143_4 P), (o144_4 P), (o145_4 P), (o146_4 P), (o147_4 P), (o148_4 P), (o149_4 P), (o150_4 P), (o151_4 P), (o152_5 P), (o153_5 P), (o154_5 P), (o155_5 P), (o156_5 P), (o157_5 P), (o158_5 P), (o159_5 P), (o160_5 P), (o161_5 P), (o162_5 P), (o163_5 P), (o164_5 P), (o165_5 P), (o166_5 P), (o167_5 P), (o168_5 P), (o169_5 P), (o170_5 P), (o171_5 P), (o172_5 P), (o173_5 P), (o174_5 P), (o175_5 P), (o176_5 P), (o177_5 P), (o178_5 P), (o179_5 P), (o180_5 P), (o181_5 P), (o182_5 P), (o183_5 P), (o184_5 P), (o185_5 P), (o186_5 P), (o187_5 P), (o188_5 P), (o189_5 P), (o190_5 P), (o191_5 P), (o192_5 P), (o193_5 P), (o194_5 P), (o195_5 P), (o196_5 P), (o197_5 P), (o198_5 P), (o199_5 P), (o200_5 P), (o201_5 P), (o202_5 P), (o203_5 P), (o204_5 P), (o205_5 P), (o206_5 P), (o207_5 P), (o208_5 P), (o209_5 P), (o210_5 P), (o211_5 P), (o212_5 P), (o213_5 P), (o214_5 P), (o215_5 P), (o216_5 P), (o217_5 P), (o218_5 P), (o219_5 P), (o220_5 P), (o221_5 P), (o222_5 P), (o223_5 P), (o224_5 P), (o225_5 P), (o226_5 P), (o227_5 P), (o228_5 P), (o229_5 P), (o230_5 P), (o231_5 P), (o232_5 P), (o233_5 P), (o234_5 P), (o235_5 P), (o236_5 P), (o237_6 P), (o238_6 P), (o239_6 P), (o240_6 P), (o241_6 P), (o242_6 P), (o243_6 P), (o244_6 P), (o245_6 P), (o246_6 P), (o247_6 P), (o248_6 P), (o249_6 P), (o250_6 P), (o251_6 P), (o252_6 P), (o253_6 P), (o254_6 P), (o255_6 P), (o256_6 P), (o257_6 P), (o258_6 P), (o259_6 P), (o260_6 P), (o261_6 P), (o262_6 P), (o263_6 P), (o264_6 P), (o265_6 P), (o266_6 P), (o267_6 P), (o268_6 P), (o269_6 P), (o270_6 P), (o271_6 P), (o272_6 P), (o273_6 P), (o274_6 P), (o275_6 P), (o276_6 P), (o277_6 P), (o278_6 P), (o279_6 P), (o280_6 P), (o281_6 P), (o282_6 P), (o283_6 P), (o284_6 P), (o285_6 P), (o286_6 P), (o287_6 P), (o288_6 P), (o289_6 P), (o290_6 P), (o291_6 P), (o292_6 P)]) life
theorem fin_ (w : World) (os : OsState) : topRun treeTable pr w 11 (some (.ref 6)) 2 ((SharedT.mk (T5 w.params) 293 life (Array.mk []) (Drawn.mk 0 0 0 0) 566 os).abs) (Thread.mk (doneF .next) cE (Pos.mk 198 0 212 117) BB) = some (Shared.mk (Hf w.params) (Array.mk []) (Drawn.mk 0 0 0 0) 566 os) := by rw [PySem.W.Fast.te14082659384304107361, PySem.W.Fast.te14364793385576792824]; kernel_rfl
abbrev MM : Nat := 12 + (1 + (196 + (381 + (393 + (390 + (269 + 2))))))
theorem run_ (w : World) (os : OsState) : topRun treeTable pr w 11 (some (.ref 6)) MM (Shared.mk (boot_heap w.params) (Array.mk []) boot_drawn boot_toks os) (topStub pr) = some (Shared.mk (Hf w.params) (Array.mk []) (Drawn.mk 0 0 0 0) 566 os) := go_top (pre_ w os) (piece_block (block_ w os) (piece_app (segRun_of (g0 _ _ w os)) (piece_app (segRun_of (g1 _ _ w os)) (piece_app (segRun_of (g2 _ _ w os)) (piece_app (segRun_of (g3 _ _ w os)) (piece_app (segRun_of (g4 _ _ w os)) (piece_nil (fin_ w os))))))))
def qq : Program := { pr with main := { pr.main with body := [top 1, top 2, top 4, top 6, top 7, top 8, top 9, top 10, top 11, top 12, top 14, top 15, top 16, top 17, top 19, top 20, top 21, top 22, top 23, top 24, top 25, top 26, top 27, top 28, top 29, top 30, top 31, top 32, top 34, top 35, top 36, top 37, top 38, top 39, top 40, top 41, top 42, top 43, top 44, top 45, top 46, top 47] } }
def loose : List PySem.Str := []
def lv : List (PySem.Str × WData) := []
abbrev NN : Nat := 3374
def KK (P : Params) : Frag := [(2, (boot_o_2 P)), (3, (o3_6 P)), (15, (o15_2 P)), (22, (o22_2 P)), (23, (o23_2 P)), (24, (o24_3 P)), (25, (o25_2 P)), (28, (o28_3 P)), (35, (o35_3 P)), (36, (o36_3 P)), (37, (o37_3 P)), (40, (o40_3 P)), (42, (o42_3 P)), (43, (o43_3 P)), (45, (o45_3 P)), (46, (o46_3 P)), (47, (o47_3 P)), (49, (o49_3 P)), (50, (o50_3 P)), (52, (o52_3 P)), (53, (o53_3 P)), (54, (o54_3 P)), (56, (o56_3 P)), (57, (o57_3 P)), (59, (o59_3 P)), (60, (o60_3 P)), (61, (o61_3 P)), (63, (o63_3 P)), (64, (o64_3 P)), (66, (o66_3 P)), (67, (o67_3 P)), (68, (o68_3 P)), (70, (o70_3 P)), (71, (o71_3 P)), (73, (o73_3 P)), (74, (o74_3 P)), (75, (o75_4 P)), (77, (o77_4 P)), (78, (o78_4 P)), (80, (o80_4 P)), (81, (o81_4 P)), (82, (o82_4 P)), (84, (o84_4 P)), (85, (o85_4 P)), (87, (o87_4 P)), (88, (o88_4 P)), (89, (o89_4 P)), (91, (o91_4 P)), (92, (o92_4 P)), (94, (o94_4 P)), (95, (o95_4 P)), (96, (o96_4 P)), (98, (o98_4 P)), (99, (o99_4 P)), (101, (o101_4 P)), (102, (o102_4 P)), (103, (o103_4 P)), (105, (o105_4 P)), (106, (o106_4 P)), (108, (o108_4 P)), (109, (o109_4 P)), (110, (o110_4 P)), (113, (o113_4 P)), (114, (o114_4 P)), (115, (o115_4 P)), (117, (o117_4 P)), (118, (o118_4 P)), (120, (o120_4 P)), (121, (o121_4 P)), (122, (o122_4 P)), (123, (o123_4 P)), (126, (o126_4 P)), (127, (o127_4 P)), (128, (o128_4 P)), (131, (o131_4 P)), (132, (o132_4 P)), (133, (o133_4 P)), (135, (o135_4 P)), (136, (o136_4 P)), (138, (o138_4 P)), (139, (o139_4 P)), (140, (o140_4 P)), (143, (o143_4 P)), (144, (o144_4 P)), (145, (o145_4 P)), (147, (o147_4 P)), (148, (o148_4 P)), (150, (o150_4 P)), (151, (o151_4 P)), (152, (o152_5 P)), (154, (o154_5 P)), (155, (o155_5 P)), (157, (o157_5 P)), (158, (o158_5 P)), (159, (o159_5 P)), (161, (o161_5 P)), (162, (o162_5 P)), (164, (o164_5 P)), (165, (o165_5 P)), (166, (o166_5 P)), (168, (o168_5 P)), (169, (o169_5 P)), (171, (o171_5 P)), (172, (o172_5 P)), (173, (o173_5 P)), (176, (o176_5 P)), (177, (o177_5 P)), (178, (o178_5 P)), (181, (o181_5 P)), (182, (o182_5 P)), (183, (o183_5 P)), (185, (o185_5 P)), (186, (o186_5 P)), (188, (o188_5 P)), (189, (o189_5 P)), (190, (o190_5 P)), (193, (o193_5 P)), (194, (o194_5 P)), (195, (o195_5 P)), (197, (o197_5 P)), (198, (o198_5 P)), (200, (o200_5 P)), (201, (o201_5 P)), (202, (o202_5 P)), (204, (o204_5 P)), (205, (o205_5 P)), (207, (o207_5 P)), (208, (o208_5 P)), (209, (o209_5 P)), (211, (o211_5 P)), (212, (o212_5 P)), (214, (o214_5 P)), (215, (o215_5 P)), (216, (o216_5 P)), (218, (o218_5 P)), (219, (o219_5 P)), (221, (o221_5 P)), (222, (o222_5 P)), (223, (o223_5 P)), (225, (o225_5 P)), (226, (o226_5 P)), (228, (o228_5 P)), (229, (o229_5 P)), (230, (o230_5 P)), (232, (o232_5 P)), (233, (o233_5 P)), (235, (o235_5 P)), (236, (o236_5 P)), (237, (o237_6 P)), (239, (o239_6 P)), (240, (o240_6 P)), (242, (o242_6 P)), (243, (o243_6 P)), (244, (o244_6 P)), (246, (o246_6 P)), (247, (o247_6 P)), (249, (o249_6 P)), (250, (o250_6 P)), (251, (o251_6 P)), (253, (o253_6 P)), (254, (o254_6 P)), (256, (o256_6 P)), (257, (o257_6 P)), (258, (o258_6 P)), (260, (o260_6 P)), (261, (o261_6 P)), (263, (o263_6 P)), (264, (o264_6 P)), (265, (o265_6 P)), (267, (o267_6 P)), (268, (o268_6 P)), (270, (o270_6 P)), (271, (o271_6 P)), (272, (o272_6 P)), (274, (o274_6 P)), (275, (o275_6 P)), (277, (o277_6 P)), (278, (o278_6 P)), (279, (o279_6 P)), (281, (o281_6 P)), (282, (o282_6 P)), (284, (o284_6 P)), (285, (o285_6 P)), (286, (o286_6 P)), (288, (o288_6 P)), (289, (o289_6 P)), (291, (o291_6 P)), (292, (o292_6 P))]
def aa : List Addr := [2, 3, 15, 22, 23, 24, 25, 28, 35, 36, 37, 40, 42, 43, 45, 46, 47, 49, 50, 52, 53, 54, 56, 57, 59, 60, 61, 63, 64, 66, 67, 68, 70, 71, 73, 74, 75, 77, 78, 80, 81, 82, 84, 85, 87, 88, 89, 91, 92, 94, 95, 96, 98, 99, 101, 102, 103, 105, 106, 108, 109, 110, 113, 114, 115, 117, 118, 120, 121, 122, 123, 126, 127, 128, 131, 132, 133, 135, 136, 138, 139, 140, 143, 144, 145, 147, 148, 150, 151, 152, 154, 155, 157, 158, 159, 161, 162, 164, 165, 166, 168, 169, 171, 172, 173, 176, 177, 178, 181, 182, 183, 185, 186, 188, 189, 190, 193, 194, 195, 197, 198, 200, 201, 202, 204, 205, 207, 208, 209, 211, 212, 214, 215, 216, 218, 219, 221, 222, 223, 225, 226, 228, 229, 230, 232, 233, 235, 236, 237, 239, 240, 242, 243, 244, 246, 247, 249, 250, 251, 253, 254, 256, 257, 258, 260, 261, 263, 264, 265, 267, 268, 270, 271, 272, 274, 275, 277, 278, 279, 281, 282, 284, 285, 286, 288, 289, 291, 292]
theorem open_ : ∀ w : World, (fencedOpening treeTable pr w NN).map (fun s => (s.heap, s.gens, s.drawn, s.toks)) = some (boot_heap w.params, Array.mk [], boot_drawn, boot_toks) :=
  boot_open (p := pr) (N := NN) (by kernel_rfl) (by kernel_rfl) (fun s => by kernel_rfl)
theorem size_ (w : World) : ((boot_heap w.params).isNs mainGlobals && (Array.mk [] : Array GenState).size == 0, (boot_heap w.params).objs.size, (boot_heap w.params).nsMap mainGlobals "__annotations__") = (true, 11, ((some (.ref 6)) : Option Value)) := by kernel_rfl
theorem le_ : Nat.ble MM NN = true := by kernel_rfl
abbrev rr : OpenRow := PySem.Challenge.rw_spinboard_k53_reduced.row
abbrev HH : Hook := kHook KK aa (fun _ => by kernel_rfl)
abbrev Xt (s : Shared) : Bool := xlAt qq lv s && recOk (RowW.records rr.toRowW) s
abbrev sf (w : World) (os : OsState) : Shared := Shared.mk (Hf w.params) (Array.mk []) (Drawn.mk 0 0 0 0) 566 os
theorem lk1 (w : World) (os : OsState) : (staticsOk (importedModules pr.main.body) (boot_heap w.params) (Hf w.params) && namesBound pr (Hf w.params) && gensDone (sf w os) && laidKept (boot_heap w.params) (Hf w.params)) = true := by rw [PySem.W.Fast.te5923862056798008813]; kernel_rfl
theorem lk2 (w : World) (os : OsState) : openSeen qq loose (importedModules pr.main.body) Xt true (sf w os) = openGood qq loose := by rw [PySem.W.Fast.te4187177175401517315, PySem.W.Fast.te5923862056798008813]; kernel_rfl
theorem lk3 (w : World) (os : OsState) : HH.obs (sf w os) = HH.val w := by kernel_rfl
theorem left_ : LeftO pr qq loose Xt HH.obs HH.val NN :=
  LeftO.of_pieces (H₀ := boot_heap) (H₁ := Hf) open_ size_ run_ le_ fun w => funext fun os => looks_pair (lk1 w os) (looks_pair (lk2 w os) (lk3 w os))
theorem said_ : PySem.Challenge.rw_spinboard_k53_reduced.wellSaid = true := by rw [PySem.W.Fast.te9446332074065402090]; kernel_rfl
theorem k292 (P : Params) : (KK P).lookup 292 = some (o292_6 P) := by kernel_rfl
theorem k46 (P : Params) : (KK P).lookup 46 = some (o46_3 P) := by kernel_rfl
theorem k53 (P : Params) : (KK P).lookup 53 = some (o53_3 P) := by kernel_rfl
theorem k60 (P : Params) : (KK P).lookup 60 = some (o60_3 P) := by kernel_rfl
theorem k67 (P : Params) : (KK P).lookup 67 = some (o67_3 P) := by kernel_rfl
theorem k74 (P : Params) : (KK P).lookup 74 = some (o74_3 P) := by kernel_rfl
theorem k81 (P : Params) : (KK P).lookup 81 = some (o81_4 P) := by kernel_rfl
theorem k88 (P : Params) : (KK P).lookup 88 = some (o88_4 P) := by kernel_rfl
theorem k95 (P : Params) : (KK P).lookup 95 = some (o95_4 P) := by kernel_rfl
theorem k102 (P : Params) : (KK P).lookup 102 = some (o102_4 P) := by kernel_rfl
theorem k109 (P : Params) : (KK P).lookup 109 = some (o109_4 P) := by kernel_rfl
theorem k114 (P : Params) : (KK P).lookup 114 = some (o114_4 P) := by kernel_rfl
theorem k121 (P : Params) : (KK P).lookup 121 = some (o121_4 P) := by kernel_rfl
theorem k127 (P : Params) : (KK P).lookup 127 = some (o127_4 P) := by kernel_rfl
theorem k132 (P : Params) : (KK P).lookup 132 = some (o132_4 P) := by kernel_rfl
theorem k139 (P : Params) : (KK P).lookup 139 = some (o139_4 P) := by kernel_rfl
theorem k144 (P : Params) : (KK P).lookup 144 = some (o144_4 P) := by kernel_rfl
theorem k151 (P : Params) : (KK P).lookup 151 = some (o151_4 P) := by kernel_rfl
theorem k158 (P : Params) : (KK P).lookup 158 = some (o158_5 P) := by kernel_rfl
theorem k165 (P : Params) : (KK P).lookup 165 = some (o165_5 P) := by kernel_rfl
theorem k172 (P : Params) : (KK P).lookup 172 = some (o172_5 P) := by kernel_rfl
theorem k177 (P : Params) : (KK P).lookup 177 = some (o177_5 P) := by kernel_rfl
theorem k182 (P : Params) : (KK P).lookup 182 = some (o182_5 P) := by kernel_rfl
theorem k189 (P : Params) : (KK P).lookup 189 = some (o189_5 P) := by kernel_rfl
theorem k194 (P : Params) : (KK P).lookup 194 = some (o194_5 P) := by kernel_rfl
theorem k201 (P : Params) : (KK P).lookup 201 = some (o201_5 P) := by kernel_rfl
theorem k208 (P : Params) : (KK P).lookup 208 = some (o208_5 P) := by kernel_rfl
theorem k215 (P : Params) : (KK P).lookup 215 = some (o215_5 P) := by kernel_rfl
theorem k222 (P : Params) : (KK P).lookup 222 = some (o222_5 P) := by kernel_rfl
theorem k229 (P : Params) : (KK P).lookup 229 = some (o229_5 P) := by kernel_rfl
theorem k236 (P : Params) : (KK P).lookup 236 = some (o236_5 P) := by kernel_rfl
theorem k243 (P : Params) : (KK P).lookup 243 = some (o243_6 P) := by kernel_rfl
theorem k250 (P : Params) : (KK P).lookup 250 = some (o250_6 P) := by kernel_rfl
theorem k257 (P : Params) : (KK P).lookup 257 = some (o257_6 P) := by kernel_rfl
theorem k264 (P : Params) : (KK P).lookup 264 = some (o264_6 P) := by kernel_rfl
theorem k271 (P : Params) : (KK P).lookup 271 = some (o271_6 P) := by kernel_rfl
theorem k278 (P : Params) : (KK P).lookup 278 = some (o278_6 P) := by kernel_rfl
theorem k285 (P : Params) : (KK P).lookup 285 = some (o285_6 P) := by kernel_rfl
theorem k122 (P : Params) : (KK P).lookup 122 = some (o122_4 P) := by kernel_rfl
theorem f4 (P : Params) : FunAt (KK P) "is_whole" (top 4) .none := fat (f := 46) (by kernel_rfl) (k46 P) (by kernel_rfl) (by kernel_rfl)
theorem f6 (P : Params) : FunAt (KK P) "ones" (top 6) .none := fat (f := 53) (by kernel_rfl) (k53 P) (by kernel_rfl) (by kernel_rfl)
theorem f7 (P : Params) : FunAt (KK P) "is_word" (top 7) .none := fat (f := 60) (by kernel_rfl) (k60 P) (by kernel_rfl) (by kernel_rfl)
theorem f8 (P : Params) : FunAt (KK P) "is_mark" (top 8) .none := fat (f := 67) (by kernel_rfl) (k67 P) (by kernel_rfl) (by kernel_rfl)
theorem f9 (P : Params) : FunAt (KK P) "is_even" (top 9) .none := fat (f := 74) (by kernel_rfl) (k74 P) (by kernel_rfl) (by kernel_rfl)
theorem f10 (P : Params) : FunAt (KK P) "is_even_mark" (top 10) .none := fat (f := 81) (by kernel_rfl) (k81 P) (by kernel_rfl) (by kernel_rfl)
theorem f11 (P : Params) : FunAt (KK P) "commute" (top 11) .none := fat (f := 88) (by kernel_rfl) (k88 P) (by kernel_rfl) (by kernel_rfl)
theorem f12 (P : Params) : FunAt (KK P) "product" (top 12) .none := fat (f := 95) (by kernel_rfl) (k95 P) (by kernel_rfl) (by kernel_rfl)
theorem f14 (P : Params) : FunAt (KK P) "solved" (top 14) .none := fat (f := 102) (by kernel_rfl) (k102 P) (by kernel_rfl) (by kernel_rfl)
theorem f15 (P : Params) : FunAt (KK P) "cleared" (top 15) .none := fat (f := 109) (by kernel_rfl) (k109 P) (by kernel_rfl) (by kernel_rfl)
theorem f16 (P : Params) : FunAt (KK P) "places_at_one" (top 16) .none := fat (f := 114) (by kernel_rfl) (k114 P) (by kernel_rfl) (by kernel_rfl)
theorem f17 (P : Params) : FunAt (KK P) "solution" (top 17) .none := fat (f := 121) (by kernel_rfl) (k121 P) (by kernel_rfl) (by kernel_rfl)
theorem f21 (P : Params) : FunAt (KK P) "is_table" (top 21) .none := fat (f := 127) (by kernel_rfl) (k127 P) (by kernel_rfl) (by kernel_rfl)
theorem f22 (P : Params) : FunAt (KK P) "commutes_with_all" (top 22) .none := fat (f := 132) (by kernel_rfl) (k132 P) (by kernel_rfl) (by kernel_rfl)
theorem f23 (P : Params) : FunAt (KK P) "check_table" (top 23) .none := fat (f := 139) (by kernel_rfl) (k139 P) (by kernel_rfl) (by kernel_rfl)
theorem f24 (P : Params) : FunAt (KK P) "reduced" (top 24) .none := fat (f := 144) (by kernel_rfl) (k144 P) (by kernel_rfl) (by kernel_rfl)
theorem f25 (P : Params) : FunAt (KK P) "without_lead" (top 25) .none := fat (f := 151) (by kernel_rfl) (k151 P) (by kernel_rfl) (by kernel_rfl)
theorem f26 (P : Params) : FunAt (KK P) "lead" (top 26) .none := fat (f := 158) (by kernel_rfl) (k158 P) (by kernel_rfl) (by kernel_rfl)
theorem f27 (P : Params) : FunAt (KK P) "least_cell" (top 27) .none := fat (f := 165) (by kernel_rfl) (k165 P) (by kernel_rfl) (by kernel_rfl)
theorem f28 (P : Params) : FunAt (KK P) "has_at_lead" (top 28) .none := fat (f := 172) (by kernel_rfl) (k172 P) (by kernel_rfl) (by kernel_rfl)
theorem f29 (P : Params) : FunAt (KK P) "made_of" (top 29) .none := fat (f := 177) (by kernel_rfl) (k177 P) (by kernel_rfl) (by kernel_rfl)
theorem f30 (P : Params) : FunAt (KK P) "rows_with" (top 30) .none := fat (f := 182) (by kernel_rfl) (k182 P) (by kernel_rfl) (by kernel_rfl)
theorem f31 (P : Params) : FunAt (KK P) "product_of" (top 31) .none := fat (f := 189) (by kernel_rfl) (k189 P) (by kernel_rfl) (by kernel_rfl)
theorem f32 (P : Params) : FunAt (KK P) "apart_by" (top 32) .none := fat (f := 194) (by kernel_rfl) (k194 P) (by kernel_rfl) (by kernel_rfl)
theorem f34 (P : Params) : FunAt (KK P) "_law_cell_at" (top 34) .none := fat (f := 201) (by kernel_rfl) (k201 P) (by kernel_rfl) (by kernel_rfl)
theorem f35 (P : Params) : FunAt (KK P) "_law_whole" (top 35) .none := fat (f := 208) (by kernel_rfl) (k208 P) (by kernel_rfl) (by kernel_rfl)
theorem f36 (P : Params) : FunAt (KK P) "_law_ones" (top 36) .none := fat (f := 215) (by kernel_rfl) (k215 P) (by kernel_rfl) (by kernel_rfl)
theorem f37 (P : Params) : FunAt (KK P) "_law_product" (top 37) .none := fat (f := 222) (by kernel_rfl) (k222 P) (by kernel_rfl) (by kernel_rfl)
theorem f38 (P : Params) : FunAt (KK P) "_law_commute" (top 38) .none := fat (f := 229) (by kernel_rfl) (k229 P) (by kernel_rfl) (by kernel_rfl)
theorem f39 (P : Params) : FunAt (KK P) "_law_even_mark" (top 39) .none := fat (f := 236) (by kernel_rfl) (k236 P) (by kernel_rfl) (by kernel_rfl)
theorem f40 (P : Params) : FunAt (KK P) "_law_taken" (top 40) .none := fat (f := 243) (by kernel_rfl) (k243 P) (by kernel_rfl) (by kernel_rfl)
theorem f41 (P : Params) : FunAt (KK P) "_law_table" (top 41) .none := fat (f := 250) (by kernel_rfl) (k250 P) (by kernel_rfl) (by kernel_rfl)
theorem f42 (P : Params) : FunAt (KK P) "_law_other" (top 42) .none := fat (f := 257) (by kernel_rfl) (k257 P) (by kernel_rfl) (by kernel_rfl)
theorem f43 (P : Params) : FunAt (KK P) "_law_lead" (top 43) .none := fat (f := 264) (by kernel_rfl) (k264 P) (by kernel_rfl) (by kernel_rfl)
theorem f44 (P : Params) : FunAt (KK P) "_law_has" (top 44) .none := fat (f := 271) (by kernel_rfl) (k271 P) (by kernel_rfl) (by kernel_rfl)
theorem f45 (P : Params) : FunAt (KK P) "_law_shape" (top 45) .none := fat (f := 278) (by kernel_rfl) (k278 P) (by kernel_rfl) (by kernel_rfl)
theorem f46 (P : Params) : FunAt (KK P) "_law_is_reduced" (top 46) .none := fat (f := 285) (by kernel_rfl) (k285 P) (by kernel_rfl) (by kernel_rfl)
end Hd
end K53
open PySem PySem.W PyProof.Rows
set_option maxRecDepth 100000 in
set_option maxHeartbeats 0 in
theorem PySem.Challenge.cw_spinboard_k53_reduced_holds : PySem.Challenge.rw_spinboard_k53_reduced.Holds := by
  refine holds_law K53.Hd.said_ fun said => ?_
  refine holds_open (q := K53.Hd.qq) (loose := K53.Hd.loose) (Xt := K53.Hd.Xt) (XP := XL K53.Hd.qq K53.Hd.lv) (Yf := K53.Hd.HH.obs) (Ya := K53.Hd.HH.val) (YP := K53.Hd.HH.says) (d := ⟨"law", L2.defArgs (K53.top 47), L2.defBody (K53.top 47), L2.defScope (K53.top 47), K53.Hd.dPos (K53.top 47)⟩) (kwd := []) (N := K53.Hd.NN) K53.Hd.left_ K53.Hd.HH.of K53.Hd.HH.keeps (fun s e => xl_of s (Bool.and_eq_true_iff.mp e).1) XL.keeps (by kernel_rfl) (by kernel_rfl) (by kernel_rfl) (fun s e => recFacts_of (Bool.and_eq_true_iff.mp e).2) (by kernel_rfl) said (by kernel_rfl) ⟨rfl, rfl, rfl, rfl, rfl, by decide +kernel⟩ ?hw ?hc
  case hw => w_witness2
  refine K53.walk (l := PySem.Challenge.rw_spinboard_k53_reduced) rfl rfl (fun w h Y => PySem.W.kIn_of Y) ?F
  case F =>
    intro w mg fa h KX G hmg
    refine' K53.all_mk (K := K53.Hd.KK w.params) (f := 292) (aP := 122) (tF := 336) KX G hmg ?aL (K53.Hd.k292 _) ?cL ?kL (K53.Hd.f4 _) (K53.Hd.f6 _) (K53.Hd.f7 _) (K53.Hd.f8 _) (K53.Hd.f9 _) (K53.Hd.f10 _) (K53.Hd.f11 _) (K53.Hd.f12 _) (K53.Hd.f14 _) (K53.Hd.f15 _) (K53.Hd.f16 _) (K53.Hd.f17 _) (K53.Hd.f21 _) (K53.Hd.f22 _) (K53.Hd.f23 _) (K53.Hd.f24 _) (K53.Hd.f25 _) (K53.Hd.f26 _) (K53.Hd.f27 _) (K53.Hd.f28 _) (K53.Hd.f29 _) (K53.Hd.f30 _) (K53.Hd.f31 _) (K53.Hd.f32 _) (K53.Hd.f34 _) (K53.Hd.f35 _) (K53.Hd.f36 _) (K53.Hd.f37 _) (K53.Hd.f38 _) (K53.Hd.f39 _) (K53.Hd.f40 _) (K53.Hd.f41 _) (K53.Hd.f42 _) (K53.Hd.f43 _) (K53.Hd.f44 _) (K53.Hd.f45 _) (K53.Hd.f46 _) ?z0 ?z1 ?z2 ?z3 ?z4 ?z5 ?z6 ?z7 ?z8 ?z9 ?z10 ?z11 ?z12 ?z13 ?z14 ?gP0 ?tP ?gF0
    (case aL => kernel_rfl); (case cL => kernel_rfl); (case kL => kernel_rfl)
    (case z0 => kernel_rfl); (case z1 => kernel_rfl); (case z2 => kernel_rfl); (case z3 => kernel_rfl); (case z4 => kernel_rfl); (case z5 => kernel_rfl); (case z6 => kernel_rfl); (case z7 => kernel_rfl); (case z8 => kernel_rfl); (case z9 => kernel_rfl); (case z10 => kernel_rfl); (case z11 => kernel_rfl); (case z12 => kernel_rfl); (case z13 => kernel_rfl); (case z14 => kernel_rfl)
    (case gP0 => kernel_rfl); (case tP => exact K53.Hd.k122 _); (case gF0 => kernel_rfl)

