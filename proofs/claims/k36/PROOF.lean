import PyProof.Rows.All
import Wide.All
import OpenK.AllK
import Wide.FinOn
import Lean
import PyProof.EqAt
import PyProof.EqKinds
import PyProof.TupleCall
import PyProof.Rows.BitMore
import PyProof.ConsumeWalk
import PyProof.Rows.SetFrom
import PyProof.WalksMore
import PyProof.FactsAll.subtypes_4
import PyProof.Rows.SortWalk
import PyProof.Rows.TupDisplay
import PyProof.EnumMake
import PyProof.Rows.EnumRows
import PyProof.SumAny
import PyProof.StationsW
import PyProof.ExcClass3
import PyProof.ExcBaseAll.ValueError
import PyProof.RulesAs
import PyProof.ExcArgsOwn
import PyProof.ExcAttrAll.ValueError
import PyProof.Rows.MinMaxN
import PySem.Challenge.RW_spinboard_k36_moves_refused
-- CHANGE: your row's module here, as the last of these rows
set_option Elab.async false
set_option linter.all false
set_option maxRecDepth 100000
/-! THE HAND LAYER, for ints, bools, texts, own classes, LISTS and tuples (index, slices, in, append, pop ..), calls, loops. Paste it whole ahead of your own text; what your proof does not reach may be deleted. -/
namespace L2
open PySem PySem.Spec PyProof.Rows

abbrev Key := Sum Int Str
def keyIs : Key → Value → Bool
  | .inl k, v => Value.isInt k v
  | .inr x, v => Value.isStrOf x v
def keyH (w : World) : Key → Int
  | .inl k => hashInt k
  | .inr x => hashStr w x
theorem keyIs_shape : ∀ {k : Key} {v : Value}, keyIs k v = true → (∃ i t, k = Sum.inl i ∧ v = Value.int i t) ∨ (∃ x t, k = Sum.inr x ∧ v = Value.str x t)
  | .inl i, v, h => by
    obtain ⟨t, e⟩ := Value.isInt_shape (k := i) (v := v) h
    exact .inl ⟨i, t, rfl, e⟩
  | .inr x, v, h => by
    obtain ⟨t, e⟩ := Value.isStrOf_shape (x := x) (v := v) h
    exact .inr ⟨x, t, rfl, e⟩
theorem keyIs_int (i : Int) (t : Tok) : keyIs (.inl i) (.int i t) = true := by simp [keyIs, Value.isInt]
theorem keyIs_str (x : Str) (t : Tok) : keyIs (.inr x) (.str x t) = true := by simp [keyIs, Value.isStrOf]
theorem key_ll (a b : Int) : decide ((Sum.inl a : Key) = Sum.inl b) = (a == b) := by
  by_cases e : a = b
  · subst e; simp
  · have h : ¬ (Sum.inl a : Key) = Sum.inl b := fun q => e (Sum.inl.inj q)
    rw [decide_eq_false h]
    exact (beq_eq_false_iff_ne.mpr e).symm
theorem key_rr (a b : Str) : decide ((Sum.inr a : Key) = Sum.inr b) = decide (a = b) := by
  by_cases e : a = b
  · subst e; simp
  · have h : ¬ (Sum.inr a : Key) = Sum.inr b := fun q => e (Sum.inr.inj q)
    rw [decide_eq_false h, decide_eq_false e]
theorem key_lr (a : Int) (b : Str) : decide ((Sum.inl a : Key) = Sum.inr b) = false := decide_eq_false (fun q => nomatch q)
theorem key_rl (a : Str) (b : Int) : decide ((Sum.inr a : Key) = Sum.inl b) = false := decide_eq_false (fun q => nomatch q)

def mixKind (prog : Program) (w : World) : PySem.KeyKind prog w Key where
  is := keyIs
  hash := keyH w
  inj := fun v a b ha hb => by
    rcases keyIs_shape ha with ⟨i, t, rfl, rfl⟩ | ⟨x, t, rfl, rfl⟩
    · rcases keyIs_shape hb with ⟨j, u, rfl, e⟩ | ⟨y, u, rfl, e⟩
      · injection e with e1 _; rw [e1]
      · exact nomatch e
    · rcases keyIs_shape hb with ⟨j, u, rfl, e⟩ | ⟨y, u, rfl, e⟩
      · exact nomatch e
      · injection e with e1 _; rw [e1]
  byValue := fun k v h => by
    rcases keyIs_shape h with ⟨i, t, rfl, rfl⟩ | ⟨x, t, rfl, rfl⟩ <;> rfl
  pyHash := fun hv h => by
    rcases keyIs_shape hv with ⟨i, t, rfl, rfl⟩ | ⟨x, t, rfl, rfl⟩
    · exact wpAny_pyHash_int h
    · exact wpAny_pyHash_str h
  eqBool := fun hu hv h => by
    rcases keyIs_shape hu with ⟨i, t, rfl, rfl⟩ | ⟨x, t, rfl, rfl⟩
    · rcases keyIs_shape hv with ⟨j, u, rfl, rfl⟩ | ⟨y, u, rfl, rfl⟩
      · rw [key_ll] at h; exact wpAny_eqBool_int h
      · rw [key_lr] at h; exact SeqAt.EqAt.int_str i t y u _ _ _ _ h
    · rcases keyIs_shape hv with ⟨j, u, rfl, rfl⟩ | ⟨y, u, rfl, rfl⟩
      · rw [key_rl] at h; exact SeqAt.EqAt.str_int x t j u _ _ _ _ h
      · rw [key_rr] at h; exact wpAny_eqBool_str h
  «strs» := fun k x t v h => by
    rcases keyIs_shape h with ⟨i, u, rfl, e⟩ | ⟨y, u, rfl, e⟩
    · exact nomatch e
    · injection e with e1 _
      subst e1
      cases v <;> rfl

theorem mixKind_int (prog : Program) (w : World) (i : Int) (t : Tok) : (mixKind prog w).is (.inl i) (.int i t) = true := keyIs_int i t
theorem mixKind_str (prog : Program) (w : World) (x : Str) (t : Tok) : (mixKind prog w).is (.inr x) (.str x t) = true := keyIs_str x t
end L2

namespace L2
open PySem PySem.Spec PyProof.Rows

inductive V where
  | non | bl (b : Bool) | int (i : Int) | str (x : Str) | byt (b : Array UInt8) | flt (b : UInt64) | ref (a : Addr) | ty (n : String)
  deriving DecidableEq

def RelV : V → Value → Prop
  | .non, u => u = Value.none
  | .bl b, u => u = Value.bool b
  | .int i, u => ∃ t, u = Value.int i t
  | .str x, u => ∃ t, u = Value.str x t
  | .byt b, u => ∃ t, u = Value.bytes b t
  | .flt b, u => ∃ t, u = Value.float b t
  | .ref a, u => u = Value.ref a
  | .ty n, u => u = Value.type n

abbrev Vals : List V → List Value → Prop := Paired RelV
theorem Vals.length {xs : List V} {us : List Value} (r : Vals xs us) : xs.length = us.length := Paired.length r
theorem Vals.get : ∀ {xs : List V} {us : List Value} {i : Nat} {x : V}, Vals xs us → xs[i]? = some x → ∃ u, us[i]? = some u ∧ RelV x u
  | _, _, _, _, .nil, e => by simp at e
  | _, _, 0, _, .cons r _, e => by simp at e; subst e; exact ⟨_, rfl, r⟩
  | _, _, i + 1, x, .cons _ t, e => by
    obtain ⟨u, h1, h2⟩ := Vals.get (i := i) (x := x) t (by simpa using e)
    exact ⟨u, by simpa using h1, h2⟩
theorem Vals.append : ∀ {xs ys : List V} {us ws : List Value}, Vals xs us → Vals ys ws → Vals (xs ++ ys) (us ++ ws)
  | _, _, _, _, .nil, s => s
  | _, _, _, _, .cons r t, s => .cons r (Vals.append t s)
theorem Vals.take : ∀ {xs : List V} {us : List Value} (n : Nat), Vals xs us → Vals (xs.take n) (us.take n)
  | _, _, 0, _ => .nil
  | _, _, _ + 1, .nil => .nil
  | _, _, n + 1, .cons r t => .cons r (Vals.take n t)
theorem Vals.drop : ∀ {xs : List V} {us : List Value} (n : Nat), Vals xs us → Vals (xs.drop n) (us.drop n)
  | _, _, 0, r => r
  | _, _, _ + 1, .nil => .nil
  | _, _, n + 1, .cons _ t => Vals.drop n t
def RelO : Option V → Option Value → Prop
  | some v, some u => RelV v u
  | none, none => True
  | _, _ => False
def KV {κ : Type} : List (κ × V) → List (κ × Value) → Prop := Paired fun (p : κ × V) (q : κ × Value) => p.1 = q.1 ∧ RelV p.2 q.2

def kV : Key → V
  | .inl i => .int i
  | .inr x => .str x

inductive HO where
  /-- a list -/
  | lst (xs : List V)
  /-- a tuple (never changes) -/
  | tup (xs : List V)
  /-- a dict whose keys are ints and texts; one whose keys are tuples of ints and texts (the empty one is both) -/
  | dK (kvs : List (Key × V)) | dT (kvs : List (List Key × V))
  /-- a set of ints: its members, its size -/
  | set (S : Int → Bool) (n : Nat)
  /-- an instance of the class at C, its dict at dx, its attributes -/
  | ins (C dx : Addr) (fs : List (Str × V))
  /-- the dict of the instance at x -/
  | own (x : Addr)
  /-- the dict of an exception -/
  | xd (fs : List (Str × V))
  /-- a bound method, f of x -/
  | met (f x : Addr)
  /-- a range object lo, lo + 1, .. below hi -/
  | rng (lo hi : Int)
  /-- a thing that is known to the object (the script; a dict while a loop walks it): read, never written while it is so -/
  | frz (o : Obj) (u : HO)
  /-- a code object's table -/
  | tbl (ps : Array Value)
  /-- any other thing, by what is true of its one object (a def of one's own: SetO a S n := HO.ext fun h => ..) -/
  | ext (φ : Heap → Prop)

abbrev Hp := Addr → Option HO
def upd (H : Hp) (a : Addr) (o : HO) : Hp := fun b => if b = a then some o else H b
theorem upd_same {H : Hp} {a : Addr} {o : HO} : upd H a o a = some o := by unfold upd; rw [if_pos rfl]
theorem upd_ne {H : Hp} {a b : Addr} {o : HO} (h : b ≠ a) : upd H a o b = H b := by unfold upd; rw [if_neg h]
theorem ne_of {H : Hp} {a b : Addr} {o u : HO} (h : H a = some o) (h' : H b = some u) (d : o ≠ u) : a ≠ b := by
  intro e; subst e; rw [h] at h'; exact d (Option.some.inj h')
theorem ne_of_none {H : Hp} {a b : Addr} {o : HO} (h : H a = some o) (h' : H b = none) : a ≠ b := by
  intro e; subst e; rw [h] at h'; cases h'

section
variable (P : Program) (w : World)
def ObjOk (H : Hp) (h : Heap) (a : Addr) : HO → Prop
  | .lst xs => xs.length ≤ sizeLine ∧ ∃ (its : List Value) (n : Nat), Vals xs its ∧ h.get? a = some { cls := .type "list", data := .seq its.toArray n }
  | .tup xs => xs.length ≤ sizeLine ∧ ∃ its : List Value, Vals xs its ∧ IsTup h a its.toArray
  | .dK kvs => kvs.length ≤ sizeLine ∧ (a == sysModules) = false ∧ ∃ vs, KV kvs vs ∧ h.DictOf (mixKind P w) a vs
  | .dT kvs => kvs.length ≤ sizeLine ∧ (a == sysModules) = false ∧ ∃ xs : List (List Key × Addr × Value),
      Paired (fun (p : List Key × V) (q : List Key × Addr × Value) => p.1 = q.1 ∧ H q.2.1 = some (.tup (p.1.map kV)) ∧ RelV p.2 q.2.2) kvs xs ∧
      ∃ o es ep, h.get? a = some o ∧ o.ExactDict ∧ o.data = .dict es ep ∧ es.toList = xs.map (entryOfKey (tupleKind (mixKind P w))) ∧ (xs.map (·.1)).Nodup
  | .set S n => h.SetOf (intKind P w) a S n
  | .ins C dx fs => H dx = some (.own a) ∧ fs.length ≤ 1000 ∧ dx ≠ a ∧ h.get? a = some (PySem.W.instObj C dx) ∧
      ∃ mA, h.Ns1 dx mA ∧ (∀ f, RelO (fs.lookup f) (mA f)) ∧ PySem.Within mA (fs.map (·.1))
  | .own _ => ∃ o, h.get? a = some o
  | .xd fs => ∃ mA, h.Ns1 a mA ∧ ∀ f, RelO (fs.lookup f) (mA f)
  | .rng lo hi => ∃ t u v, h.get? a = some { cls := .type "range", data := .fields #[.int lo t, .int hi u, .int 1 v] }
  | .frz o u => h.get? a = some o ∧ ObjOk H h a u
  | .tbl ps => h.get? a = some { cls := .none, data := .fields ps }
  | .met f x => h.get? a = some (PySem.W.methodObj (.ref f) (.ref x))
  | .ext φ => φ h ∧ (∃ o, h.get? a = some o) ∧ ∀ h1 h2 : Heap, φ h1 → (∀ o, h1.get? a = some o → h2.get? a = some o) → φ h2
def HOk (H : Hp) (h : Heap) : Prop := ∀ a o, H a = some o → ObjOk P w H h a o
end

section
variable {P : Program} {w : World} {H H' : Hp} {h h' : Heap} {a : Addr} {o : HO}
theorem ObjOk.lt (x : ObjOk P w H h a o) : a < h.objs.size := by
  cases o with
  | lst xs => obtain ⟨_, _, _, _, e⟩ := x; exact Heap.lt_size e
  | tup xs => obtain ⟨_, _, _, p⟩ := x; exact p.lt
  | dK kvs => obtain ⟨_, _, _, _, o, _, _, e, _⟩ := x; exact Heap.lt_size e
  | dT kvs => obtain ⟨_, _, _, _, o, _, _, e, _⟩ := x; exact Heap.lt_size e
  | set S n => obtain ⟨o, _, _, _, e, _⟩ := x; exact Heap.lt_size e
  | ins C dx fs => obtain ⟨_, _, _, e, _⟩ := x; exact Heap.lt_size e
  | own y => obtain ⟨_, e⟩ := x; exact Heap.lt_size e
  | xd fs => obtain ⟨_, ⟨_, _, _, e, _⟩, _⟩ := x; exact Heap.lt_size e
  | rng lo hi => obtain ⟨_, _, _, e⟩ := x; exact Heap.lt_size e
  | frz ob u => obtain ⟨e, _⟩ := x; exact Heap.lt_size e
  | tbl ps => exact Heap.lt_size (show h.get? a = some _ from x)
  | met f y => exact Heap.lt_size (show h.get? a = some _ from x)
  | ext φ => obtain ⟨_, ⟨_, e⟩, _⟩ := x; exact Heap.lt_size e
theorem Paired.mapP {α β : Type} {F G : α → β → Prop} : ∀ {l₁ : List α} {l₂ : List β}, Paired F l₁ l₂ → (∀ a b, F a b → G a b) → Paired G l₁ l₂
  | _, _, .nil, _ => .nil
  | _, _, .cons r t, f => .cons (f _ _ r) (Paired.mapP t f)
theorem Paired.imp' {α β : Type} {F G : α → β → Prop} (f : ∀ a b, F a b → G a b) {l₁ : List α} {l₂ : List β} (r : Paired F l₁ l₂) : Paired G l₁ l₂ := Paired.mapP r f
theorem ObjOk.stay (x : ObjOk P w H h a o) (k : ∀ b u, (b = a ∨ H b = some (.own a)) → h.get? b = some u → h'.get? b = some u)
    (ho : ∀ b, H b = some (.own a) → H' b = some (.own a)) (ht : ∀ b xs, H b = some (.tup xs) → H' b = some (.tup xs)) : ObjOk P w H' h' a o := by
  induction o with
  | lst xs => obtain ⟨z, its, n, r, e⟩ := x; exact ⟨z, its, n, r, k _ _ (.inl rfl) e⟩
  | tup xs => obtain ⟨z, its, r, ob, e, c⟩ := x; exact ⟨z, its, r, ob, k _ _ (.inl rfl) e, c⟩
  | dK kvs => obtain ⟨z, y, vs, r, ob, es, ep, e, c⟩ := x; exact ⟨z, y, vs, r, ob, es, ep, k _ _ (.inl rfl) e, c⟩
  | dT kvs =>
    obtain ⟨z, y, xs, r, ob, es, ep, e, c⟩ := x
    exact ⟨z, y, xs, Paired.mapP r fun p q z => ⟨z.1, ht _ _ z.2.1, z.2.2⟩, ob, es, ep, k _ _ (.inl rfl) e, c⟩
  | set S n => obtain ⟨ob, es, ep, t, e, c⟩ := x; exact ⟨ob, es, ep, t, k _ _ (.inl rfl) e, c⟩
  | ins C dx fs =>
    obtain ⟨d, z, ne, e, mA, ⟨od, es, ep, e2, c⟩, r⟩ := x
    exact ⟨ho _ d, z, ne, k _ _ (.inl rfl) e, mA, ⟨od, es, ep, k _ _ (.inr d) e2, c⟩, r⟩
  | own y => obtain ⟨ob, e⟩ := x; exact ⟨ob, k _ _ (.inl rfl) e⟩
  | xd fs => obtain ⟨mA, ⟨od, es, ep, e, c⟩, r⟩ := x; exact ⟨mA, ⟨od, es, ep, k _ _ (.inl rfl) e, c⟩, r⟩
  | rng lo hi => obtain ⟨t, u, v, e⟩ := x; exact ⟨t, u, v, k _ _ (.inl rfl) e⟩
  | frz ob u ih => obtain ⟨e, q⟩ := x; exact ⟨k _ _ (.inl rfl) e, ih q⟩
  | tbl ps =>
    have e : h.get? a = some { cls := .none, data := .fields ps } := x
    show h'.get? a = some { cls := .none, data := .fields ps }
    exact k a _ (.inl rfl) e
  | met f y =>
    have e : h.get? a = some (PySem.W.methodObj (.ref f) (.ref y)) := x
    show h'.get? a = some (PySem.W.methodObj (.ref f) (.ref y))
    exact k a _ (.inl rfl) e
  | ext φ => obtain ⟨p, ⟨o, e⟩, st⟩ := x; exact ⟨st _ _ p fun o q => k _ _ (.inl rfl) q, ⟨o, k _ _ (.inl rfl) e⟩, st⟩
theorem HOk.lt (x : HOk P w H h) (e : H a = some o) : a < h.objs.size := (x a o e).lt
theorem HOk.fresh (x : HOk P w H h) (e : h.objs.size ≤ a) : H a = none := by
  cases q : H a with
  | none => rfl
  | some u => exact absurd (Nat.lt_of_lt_of_le (x.lt q) e) (Nat.lt_irrefl _)
theorem HOk.kept (x : HOk P w H h) (k : ∀ b u, h.get? b = some u → h'.get? b = some u) : HOk P w H h' := fun a o e =>
  (x a o e).stay (fun b u _ q => k b u q) (fun _ q => q) fun _ _ q => q
theorem HOk.laid (x : HOk P w H h) (k : ∀ b u, h.get? b = some u → h'.get? b = some u) (hp : h.objs.size ≤ a) (new : ObjOk P w (upd H a o) h' a o) : HOk P w (upd H a o) h' := fun b u e => by
  have hn := x.fresh hp
  by_cases hb : b = a
  · subst hb; rw [upd_same] at e; cases e; exact new
  · rw [upd_ne hb] at e
    exact (x b u e).stay (fun c v _ q => k c v q) (fun c q => by rw [upd_ne (ne_of_none q hn)]; exact q) fun c xs q => by rw [upd_ne (ne_of_none q hn)]; exact q
end

def Rd (H : Hp) (a : Addr) (u : HO) : Prop := H a = some u ∨ ∃ o, H a = some (.frz o u)
theorem Rd.ok {P : Program} {w : World} {H : Hp} {h : Heap} {a : Addr} {u : HO} (r : Rd H a u) (x : HOk P w H h) : ObjOk P w H h a u := by
  rcases r with r | ⟨o, r⟩
  · exact x a u r
  · obtain ⟨_, q⟩ := x a _ r
    exact q
def Mut : Option HO → Prop
  | some (.lst _) => True
  | some (.dK _) => True
  | some (.dT _) => True
  | some (.set _ _) => True
  | some (.ins _ _ _) => True
  | some (.ext _) => True
  | _ => False
section
variable {P : Program} {w : World} {H : Hp} {h h' : Heap} {x e : Addr} {o' : HO}
theorem HOk.write (ok : HOk P w H h) (mu : Mut (H x)) (he : e = x ∨ H e = some (.own x)) (k : ∀ b u, b ≠ e → h.get? b = some u → h'.get? b = some u) (heo : ∃ u, h'.get? e = some u)
    (new : ObjOk P w (upd H x o') h' x o') : HOk P w (upd H x o') h' := fun b u q => by
  have nown : ∀ c y, H c = some (.own y) → c ≠ x := fun c y r z => by subst z; rw [r] at mu; exact mu
  have ntup : ∀ c xs, H c = some (.tup xs) → c ≠ x := fun c xs r z => by subst z; rw [r] at mu; exact mu
  by_cases hb : b = x
  · subst hb; rw [upd_same] at q; cases q; exact new
  · rw [upd_ne hb] at q
    by_cases hbe : b = e
    · have q' : H b = some (.own x) := by
        rcases he with z | z
        · exact absurd (hbe.trans z) hb
        · rw [hbe]; exact z
      rw [q] at q'; cases q'
      obtain ⟨v, hv⟩ := heo
      exact ⟨v, by rw [hbe]; exact hv⟩
    · refine (ok b u q).stay (fun c v hc r => k c v ?_ r) (fun c r => by rw [upd_ne (nown c b r)]; exact r) fun c xs r => by rw [upd_ne (ntup c xs r)]; exact r
      rcases hc with rfl | hc
      · exact hbe
      · rintro rfl
        rcases he with z | z
        · exact nown c b hc z
        · rw [hc] at z; cases z; exact hb rfl
end

/-! ### kept unless tracked; of the frames at fs (the callers') the slots may change (an exception that passes writes there); of the records at ex (iterators) nothing is said -/
structure Un (fs ex : List Addr) (H H' : Hp) (h h' : Heap) : Prop where
  keep : ∀ b o, h.get? b = some o → H b = none → b ∉ fs → b ∉ ex → h'.get? b = some o
  slot : ∀ b o, h.get? b = some o → H b = none → b ∈ fs → b ∉ ex → ∃ sl, h'.get? b = some { o with slots := sl }
  free : ∀ b o, h.get? b = some o → H b = none → b ∉ ex → H' b = none
  there : ∀ b o, h.get? b = some o → b ∉ ex → ∃ o', h'.get? b = some o'
  tups : ∀ b xs, H b = some (.tup xs) → H' b = some (.tup xs)
  frzs : ∀ b o u, H b = some (.frz o u) → H' b = some (.frz o u)
  tbls : ∀ b ps, H b = some (.tbl ps) → ∃ more, H' b = some (.tbl (ps ++ more))
section
variable {fs fs' ex ex' : List Addr} {H H1 H2 : Hp} {h h1 h2 h' : Heap} {a x e : Addr} {o : HO}
theorem Un.any (u : Un fs ex H H1 h h1) {b : Addr} {ob : Obj} (q : h.get? b = some ob) (n : H b = none) (hx : b ∉ ex) : ∃ sl, h1.get? b = some { ob with slots := sl } := by
  by_cases hb : b ∈ fs
  · exact u.slot b ob q n hb hx
  · exact ⟨ob.slots, u.keep b ob q n hb hx⟩
theorem Un.kept (k : ∀ b u, h.get? b = some u → h'.get? b = some u) : Un fs ex H H h h' :=
  ⟨fun b ob q _ _ _ => k b ob q, fun b ob q _ _ _ => ⟨ob.slots, k b ob q⟩, fun _ _ _ n _ => n, fun b ob q _ => ⟨ob, k b ob q⟩, fun _ _ q => q, fun _ _ _ q => q, fun _ ps q => ⟨#[], by rw [q]; simp⟩⟩
theorem Un.refl : Un fs ex H H h h := Un.kept fun _ _ q => q
theorem Un.laid (k : ∀ b u, h.get? b = some u → h'.get? b = some u) (hp : h.objs.size ≤ a) (hn : H a = none) : Un fs ex H (upd H a o) h h' where
  keep := fun b u q _ _ _ => k b u q
  slot := fun b u q _ _ _ => ⟨u.slots, k b u q⟩
  free := fun b u q n _ => by rw [upd_ne (Nat.ne_of_lt (Nat.lt_of_lt_of_le (Heap.lt_size q) hp))]; exact n
  there := fun b u q _ => ⟨u, k b u q⟩
  tups := fun b xs q => by rw [upd_ne (ne_of_none q hn)]; exact q
  frzs := fun b u xs q => by rw [upd_ne (ne_of_none q hn)]; exact q
  tbls := fun b ps q => ⟨#[], by rw [upd_ne (ne_of_none q hn), q]; simp⟩
theorem Un.write (mu : Mut (H x)) (he : e = x ∨ H e = some (.own x)) (k : ∀ b u, b ≠ e → h.get? b = some u → h'.get? b = some u) (heo : ∃ u, h'.get? e = some u) : Un fs ex H (upd H x o) h h' := by
  have hx : ∀ b, H b = none → b ≠ x := fun b n z => by subst z; rw [n] at mu; exact mu
  have hb : ∀ b, H b = none → b ≠ e := fun b n z => by
    subst z
    rcases he with r | r
    · exact hx b n r
    · rw [n] at r; cases r
  have hm : ∀ b u, H b = some u → ¬ Mut (some u) → b ≠ x := fun b u q nm z => by subst z; rw [q] at mu; exact nm mu
  refine ⟨fun b u q n _ _ => k b u (hb b n) q, fun b u q n _ _ => ⟨u.slots, k b u (hb b n) q⟩, fun b u q n _ => by rw [upd_ne (hx b n)]; exact n, fun b u q _ => ?_,
    fun b xs q => by rw [upd_ne (hm b _ q fun z => z)]; exact q, fun b u xs q => by rw [upd_ne (hm b _ q fun z => z)]; exact q, fun b ps q => ⟨#[], by rw [upd_ne (hm b _ q fun z => z), q]; simp⟩⟩
  by_cases hbe : b = e
  · subst hbe; exact heo
  · exact ⟨u, k b u hbe q⟩
end

/-! ### the heap without what is tracked -/
def trk (h : Heap) (H : Hp) : List Addr := (List.range h.objs.size).filter fun a => (H a).isSome
def hidT (h : Heap) (H : Hp) : Heap := PySem.W.hideAll h (trk h H)
theorem hidT_size (h : Heap) (H : Hp) : (hidT h H).objs.size = h.objs.size := PySem.W.hideAll_size _ _
theorem hidT_get {h : Heap} {H : Hp} {b : Addr} {o : Obj} (e : h.get? b = some o) (n : H b = none) : (hidT h H).get? b = some o :=
  PySem.W.hideAll_get _ e fun hm => by
    have q : (H b).isSome = true := (List.mem_filter.mp hm).2
    rw [n] at q; simp at q
theorem of_hidT {h : Heap} {H : Hp} {b : Addr} {o : Obj} (e : (hidT h H).get? b = some o) : h.get? b = some o ∧ H b = none := by
  have e' : h.get? b = some o := PySem.W.of_hideAll (trk h H) e
  refine ⟨e', ?_⟩
  cases q : H b with
  | none => rfl
  | some x =>
    have hm : b ∈ trk h H := List.mem_filter.mpr ⟨List.mem_range.mpr (Heap.lt_size e'), by simp [q]⟩
    have z : (hidT h H).get? b = none := PySem.W.hideAll_none (trk h H) hm
    rw [z] at e; cases e

/-! ### OpenK's ledger, filled with every new object but one -/
end L2

namespace L2
open PySem PySem.Spec PyProof.Rows

structure Mod (K : PySem.W.Frag) (mg : Str → Option Value) (base : Heap) : Prop where
  kin : K.In base
  glob : base.Ns mainGlobals mg
  blt : ∃ mb, base.Ns builtinsNs mb ∧ ∀ x : Str, x ≠ "__name__" → mb x = bootBuiltins x
  nolimit : base.NoLimit

/-- the context: a def's body (or a comprehension's block) running. base: fixed through the whole law; s₀, H₀: the entry; outer: the frames whose slots others may change (a def's callers); stack: all frames that run;
   ex: iterators that were made ahead of the entry and are walked here (a comprehension's); fn: the names whose cells were made at the entry (a def: all; a comprehension's block: its own); calm: not within an except suite; pn: pins that every state bears; xe: what is wanted of an exception that leaves the code -/
structure Cx where
  prog : Program
  w : World
  K : PySem.W.Frag
  mg : Str → Option Value
  base : Heap
  A : Around
  N : List Str
  s₀ : Shared
  H₀ : Hp
  env : Env
  outer : List Env
  stack : List Env
  ex : List Addr
  fn : Str → Bool
  calm : Bool
  pn : List (Addr × Obj)
  xe : Value → Shared → Prop
def frs (l : List Env) : List Addr := l.filterMap (·.frame)
abbrev Cx.fs (X : Cx) : List Addr := frs X.outer

def Vis (sc : Scope) (x : Str) : Prop := sc.names.lookup x = some .local ∨ sc.names.lookup x = some .cell ∨ sc.names.lookup x = some .free
def Loc (sc : Scope) (x : Str) : Prop := sc.names.lookup x = some .local ∨ sc.names.lookup x = some .cell
def Look (env : Env) (h : Heap) (m : Str → Option Value) (x : Str) (u : Value) : Prop :=
  (env.kindOf x = some .local ∧ m x = some u) ∨ ((env.kindOf x = some .cell ∨ env.kindOf x = some .free) ∧ ∃ c, env.cells.lookup x = some c ∧ h.IsCell c (some u))

structure Cx.Ok (X : Cx) : Prop where
  mod : Mod X.K X.mg X.base
  kind : X.env.scope.kind = .function
  glob : X.env.globals = mainGlobals
  blt : X.env.builtins = builtinsNs
  above : X.s₀.heap.objs.size ≤ X.env.locals
  inj : ∀ x y c, X.env.cells.lookup x = some c → X.env.cells.lookup y = some c → x = y
  has : ∀ x, (X.env.kindOf x = some .cell ∨ X.env.kindOf x = some .free) → ∃ c, X.env.cells.lookup x = some c
  cab : ∀ x c, X.fn x = true → X.env.cells.lookup x = some c → X.s₀.heap.objs.size ≤ c
  hd : X.calm = true → X.A.handled = none
  frames : X.A.frames = some X.stack
  stk : X.stack = X.outer ∨ (X.stack = X.env :: X.outer ∧ X.env.frame = some X.env.locals)
  exf : ∀ b ∈ X.ex, b ≠ X.env.locals ∧ ∀ x c, X.env.cells.lookup x = some c → c ≠ b
  bs : ∀ b o, X.base.get? b = some o → X.s₀.heap.get? b = some o ∧ X.H₀ b = none
  bsz : X.base.objs.size ≤ X.s₀.heap.objs.size
  noex : ∀ b o, X.base.get? b = some o → b ∉ X.ex
  exfs : ∀ b ∈ X.ex, b ∉ X.fs
  funs : X.s₀.heap.FunFrames X.base X.outer
  frf : ∀ b ∈ X.fs, X.H₀ b = none

structure Inv (X : Cx) (pins : List (Addr × Obj)) (σ : List (Option V)) (H : Hp) (s : Shared) : Prop where
  ok : X.Ok
  os : s.os = X.s₀.os
  bare : AllBare s.gens
  base : Un X.fs X.ex X.H₀ H X.s₀.heap s.heap
  loc : ∃ m, s.heap.Ns X.env.locals m ∧ ∀ (i : Nat) (x : Str) (v : V), X.N[i]? = some x → σ[i]? = some (some v) → Vis X.env.scope x → ∃ u, RelV v u ∧ Look X.env s.heap m x u
  cell : ∀ x c, X.env.cells.lookup x = some c → ∃ v, s.heap.IsCell c v
  free : H X.env.locals = none
  freeC : ∀ x c, X.env.cells.lookup x = some c → H c = none
  pin : ∀ p ∈ X.pn ++ pins, s.heap.get? p.1 = some p.2 ∧ H p.1 = none ∧ p.1 ≠ X.env.locals ∧ p.1 ∉ X.fs ∧ ∀ v, p.2.data ≠ .cell v
  hok : HOk X.prog X.w H s.heap
  len : σ.length = X.N.length

section
variable {X : Cx} {pins : List (Addr × Obj)} {σ : List (Option V)} {H H' : Hp} {s : Shared} {h' : Heap}

theorem Cx.Ok.nofr (ok : X.Ok) {b : Addr} {o : Obj} (e : X.base.get? b = some o) : b ∉ X.fs := fun hb => by
  have := (ok.funs.mem hb).1
  rw [e] at this; cases this
theorem Inv.bs (I : Inv X pins σ H s) : ∀ b o, X.base.get? b = some o → s.heap.get? b = some o ∧ H b = none := fun b o e =>
  ⟨I.base.keep b o (I.ok.bs b o e).1 (I.ok.bs b o e).2 (I.ok.nofr e) (I.ok.noex b o e), I.base.free b o (I.ok.bs b o e).1 (I.ok.bs b o e).2 (I.ok.noex b o e)⟩
theorem Inv.bk (I : Inv X pins σ H s) : ∀ b o, X.base.get? b = some o → s.heap.get? b = some o := fun b o e => (I.bs b o e).1
theorem Inv.mod (I : Inv X pins σ H s) : Mod X.K X.mg X.base := I.ok.mod
theorem Inv.kIn (I : Inv X pins σ H s) : X.K.In s.heap := I.ok.mod.kin.keeps I.bk
theorem Inv.lt (I : Inv X pins σ H s) : X.env.locals < s.heap.objs.size := let ⟨_, hn, _⟩ := I.loc; hn.lt
theorem Inv.sz (I : Inv X pins σ H s) : X.s₀.heap.objs.size ≤ s.heap.objs.size := Nat.le_trans I.ok.above (Nat.le_of_lt I.lt)
theorem Inv.nofs (I : Inv X pins σ H s) {a : Addr} (h : s.heap.objs.size ≤ a) : a ∉ X.fs := fun hb => by
  obtain ⟨_, o, ho, _⟩ := I.ok.funs.mem hb
  exact absurd (Nat.lt_of_lt_of_le (Heap.lt_size ho) (Nat.le_trans I.sz h)) (Nat.lt_irrefl _)
theorem Inv.cne (I : Inv X pins σ H s) : ∀ x c, X.env.cells.lookup x = some c → c ≠ X.env.locals := fun x c e z => by
  obtain ⟨v, o, ho, hd⟩ := I.cell x c e
  obtain ⟨m, ⟨o', es, ep, ho', hd', _⟩, _⟩ := I.loc
  rw [z, ho'] at ho; cases ho; rw [hd'] at hd; cases hd
theorem Inv.funs (I : Inv X pins σ H s) : s.heap.FunFrames X.base X.outer := by
  have all : ∀ (l : List Env), (∀ b ∈ frs l, b ∈ X.fs) → X.s₀.heap.FunFrames X.base l → s.heap.FunFrames X.base l := by
    intro l
    induction l with
    | nil => intro _ _; trivial
    | cons env r ih =>
      intro hs hl
      obtain ⟨hk, ⟨L, o, hf, hn, ho, hd⟩, hr⟩ := hl
      have hL : L ∈ X.fs := hs L (by unfold frs; rw [List.filterMap_cons, hf]; exact List.mem_cons_self)
      obtain ⟨sl, e⟩ := I.base.slot L o ho (I.ok.frf L hL) hL fun z => I.ok.exfs L z hL
      exact ⟨hk, ⟨L, _, hf, hn, e, hd⟩, ih (fun b hb => hs b (by unfold frs; rw [List.filterMap_cons, hf]; exact List.mem_cons_of_mem _ hb)) hr⟩
  exact all X.outer (fun _ hb => hb) I.ok.funs

theorem Inv.stack (I : Inv X pins σ H s) : s.heap.FunFrames X.base X.stack := by
  rcases I.ok.stk with e | ⟨e, hf⟩
  · rw [e]; exact I.funs
  · rw [e]
    obtain ⟨m, hn, _⟩ := I.loc
    refine .cons (by rw [I.ok.kind]; decide) hf hn ?_ I.funs
    exact Heap.get?_none_of_le (Nat.le_trans I.ok.bsz I.ok.above)
theorem Inv.stkSub (I : Inv X pins σ H s) : ∀ b ∈ frs X.stack, b ∈ X.env.locals :: X.fs := fun b hb => by
  rcases I.ok.stk with e | ⟨e, hf⟩
  · rw [e] at hb; exact List.mem_cons_of_mem _ hb
  · rw [e] at hb
    unfold frs at hb
    rw [List.filterMap_cons, hf] at hb
    exact hb
theorem Inv.stkFree (I : Inv X pins σ H s) : ∀ b ∈ frs X.stack, H b = none := fun b hb => by
  rcases List.mem_cons.mp (I.stkSub b hb) with e | hb
  · rw [e]; exact I.free
  · obtain ⟨_, o, ho, _⟩ := I.ok.funs.mem hb
    exact I.base.free b o ho (I.ok.frf b hb) fun z => I.ok.exfs b z hb

theorem Inv.step {g' : Array GenState} {t' : Nat} {d' : Drawn} {ch : List Addr} (I : Inv X pins σ H s)
    (hch : ∀ b ∈ ch, (b ∈ X.ex ∨ X.s₀.heap.objs.size ≤ b) ∧ b ≠ X.env.locals ∧ (∀ x c, X.env.cells.lookup x = some c → c ≠ b) ∧ ∀ p ∈ X.pn ++ pins, p.1 ≠ b)
    (keep : ∀ b o, b ≠ X.env.locals → b ∉ X.fs → b ∉ ch → s.heap.get? b = some o → H b = none → h'.get? b = some o)
    (slot : ∀ b o, b ≠ X.env.locals → b ∈ X.fs → b ∉ ch → s.heap.get? b = some o → H b = none → ∃ sl, h'.get? b = some { o with slots := sl }) (free : ∀ b o, b ∉ ch → s.heap.get? b = some o → H b = none → H' b = none)
    (there : ∀ b o, b ∉ ch → s.heap.get? b = some o → ∃ o', h'.get? b = some o')
    (tups : ∀ b xs, H b = some (.tup xs) → H' b = some (.tup xs)) (frzs : ∀ b o u, H b = some (.frz o u) → H' b = some (.frz o u)) (tbls : ∀ b ps, H b = some (.tbl ps) → ∃ more, H' b = some (.tbl (ps ++ more)))
    (ns : ∀ m, s.heap.Ns X.env.locals m → h'.Ns X.env.locals m) (hok : HOk X.prog X.w H' h') (hg : AllBare g') :
    Inv X pins σ H' { s with heap := h', gens := g', drawn := d', toks := t' } := by
  have neL : ∀ b o, X.s₀.heap.get? b = some o → b ≠ X.env.locals := fun b o e => Nat.ne_of_lt (Nat.lt_of_lt_of_le (Heap.lt_size e) I.ok.above)
  have neC : ∀ b o, X.s₀.heap.get? b = some o → b ∉ X.ex → b ∉ ch := fun b o e hx hb => by
    rcases (hch b hb).1 with z | z
    · exact hx z
    · exact absurd (Nat.lt_of_lt_of_le (Heap.lt_size e) z) (Nat.lt_irrefl _)
  have cellK : ∀ x c, X.env.cells.lookup x = some c → ∀ v, s.heap.IsCell c v → h'.IsCell c v := fun x c e v ⟨o, ho, hd⟩ => by
    have nch : c ∉ ch := fun z => (hch c z).2.2.1 x c e rfl
    by_cases hc : c ∈ X.fs
    · obtain ⟨sl, q⟩ := slot c o (I.cne x c e) hc nch ho (I.freeC x c e)
      exact ⟨_, q, hd⟩
    · exact ⟨o, keep c o (I.cne x c e) hc nch ho (I.freeC x c e), hd⟩
  refine ⟨I.ok, I.os, hg, ⟨fun b o e n hb hx => ?_, fun b o e n hb hx => ?_, fun b o e n hx => ?_, fun b o e hx => ?_, fun b xs e => tups b xs (I.base.tups b xs e), fun b o xs e => frzs b o xs (I.base.frzs b o xs e), fun b ps e => ?_⟩, ?_, fun x c e => ?_, ?_, fun x c e => ?_, fun p hp => ?_, hok, I.len⟩
  · exact keep b o (neL b o e) hb (neC b o e hx) (I.base.keep b o e n hb hx) (I.base.free b o e n hx)
  · obtain ⟨sl, e1⟩ := I.base.slot b o e n hb hx
    obtain ⟨sl', e2⟩ := slot b _ (neL b o e) hb (neC b o e hx) e1 (I.base.free b o e n hx)
    exact ⟨sl', e2⟩
  · obtain ⟨o', e1⟩ := I.base.there b o e hx
    exact free b o' (neC b o e hx) e1 (I.base.free b o e n hx)
  · obtain ⟨o', e1⟩ := I.base.there b o e hx
    exact there b o' (neC b o e hx) e1
  · obtain ⟨m1, e1⟩ := I.base.tbls b ps e
    obtain ⟨m2, e2⟩ := tbls b _ e1
    exact ⟨m1 ++ m2, by rw [e2, Array.append_assoc]⟩
  · obtain ⟨m, hn, hl⟩ := I.loc
    refine ⟨m, ns m hn, fun i x v e1 e2 e3 => ?_⟩
    obtain ⟨u, r, l⟩ := hl i x v e1 e2 e3
    refine ⟨u, r, ?_⟩
    rcases l with l | ⟨k, c, e, z⟩
    · exact .inl l
    · exact .inr ⟨k, c, e, cellK x c e _ z⟩
  · obtain ⟨v, z⟩ := I.cell x c e
    exact ⟨v, cellK x c e v z⟩
  · obtain ⟨m, ⟨o, _, _, ho, _⟩, _⟩ := I.loc
    exact free _ o (fun z => (hch _ z).2.1 rfl) ho I.free
  · obtain ⟨v, o, ho, hd⟩ := I.cell x c e
    exact free c o (fun z => (hch c z).2.2.1 x c e rfl) ho (I.freeC x c e)
  · obtain ⟨e, n, ne, nf, d⟩ := I.pin p hp
    have nch : p.1 ∉ ch := fun z => (hch p.1 z).2.2.2 p hp rfl
    exact ⟨keep p.1 p.2 ne nf nch e n, free p.1 p.2 nch e n, ne, nf, d⟩
theorem Inv.un {t' : Nat} (I : Inv X pins σ H s) (u : Un X.fs [] H H' s.heap h') (hok : HOk X.prog X.w H' h') : Inv X pins σ H' { s with heap := h', toks := t' } := by
  obtain ⟨m, ⟨o, es, ep, ho, r⟩, _⟩ := id I.loc
  obtain ⟨sl, hL⟩ := u.any ho I.free (by simp)
  exact I.step (g' := s.gens) (d' := s.drawn) (ch := []) (fun _ z => nomatch z) (fun b o _ hb _ e n => u.keep b o e n hb (by simp)) (fun b o _ hb _ e n => u.slot b o e n hb (by simp)) (fun b o _ e n => u.free b o e n (by simp)) (fun b o _ e => u.there b o e (by simp)) u.tups u.frzs u.tbls (fun m' hm => by
    obtain ⟨o', es', ep', ho', r'⟩ := hm
    rw [ho] at ho'; cases ho'
    exact ⟨_, es', ep', hL, r'⟩) hok I.bare
theorem Inv.call {g' : Array GenState} {t' : Nat} {d' : Drawn} {ch : List Addr} (I : Inv X pins σ H s) (u : Un (frs X.stack) ch H H' s.heap h') (hok : HOk X.prog X.w H' h') (hg : AllBare g')
    (hch : ∀ b ∈ ch, (b ∈ X.ex ∨ X.s₀.heap.objs.size ≤ b) ∧ b ≠ X.env.locals ∧ (∀ x c, X.env.cells.lookup x = some c → c ≠ b) ∧ ∀ p ∈ X.pn ++ pins, p.1 ≠ b) :
    Inv X pins σ H' { s with heap := h', gens := g', drawn := d', toks := t' } := by
  obtain ⟨m, ⟨o, es, ep, ho, r⟩, _⟩ := id I.loc
  obtain ⟨sl, hL⟩ := u.any ho I.free fun z => (hch _ z).2.1 rfl
  exact I.step (ch := ch) hch (fun b o hL hb hc e n => u.keep b o e n (fun z => (List.mem_cons.mp (I.stkSub b z)).elim hL hb) hc) (fun b o _ _ hc e n => u.any e n hc) (fun b o hc e n => u.free b o e n hc) (fun b o hc e => u.there b o e hc) u.tups u.frzs u.tbls (fun m' hm => by
    obtain ⟨o', es', ep', ho', r'⟩ := hm
    rw [ho] at ho'; cases ho'
    exact ⟨_, es', ep', hL, r'⟩) hok hg
theorem Inv.turned {t' : Nat} {it : Addr} (I : Inv X pins σ H s) (k : ∀ b o, b ≠ it → s.heap.get? b = some o → h'.get? b = some o) (hn : H it = none) (hL : it ≠ X.env.locals)
    (h1 : it ∈ X.ex ∨ X.s₀.heap.objs.size ≤ it) (h2 : ∀ x c, X.env.cells.lookup x = some c → c ≠ it) (h3 : ∀ p ∈ X.pn ++ pins, p.1 ≠ it) : Inv X pins σ H { s with heap := h', toks := t' } := by
  have nit : ∀ b u, H b = some u → b ≠ it := fun b u e z => by rw [z, hn] at e; cases e
  refine I.step (g' := s.gens) (d' := s.drawn) (ch := [it]) (fun b hb => ?_) (fun b o _ _ hc e _ => k b o (fun z => hc (by simp [z])) e) (fun b o _ _ hc e _ => ⟨o.slots, k b o (fun z => hc (by simp [z])) e⟩) (fun _ _ _ _ n => n)
    (fun b o hc e => ⟨o, k b o (fun z => hc (by simp [z])) e⟩) (fun _ _ e => e) (fun _ _ _ e => e) (fun b ps e => ⟨#[], by rw [e]; simp⟩) (fun m hm => ?_) (fun b u e => ?_) I.bare
  · have e : b = it := by simpa using hb
    subst e
    exact ⟨h1, hL, h2, h3⟩
  · obtain ⟨o, es, ep, ho, r⟩ := hm
    exact ⟨o, es, ep, k _ o (Ne.symm hL) ho, r⟩
  · refine (I.hok b u e).stay (fun c v hc q => k c v ?_ q) (fun _ q => q) fun _ _ q => q
    rcases hc with z | z
    · rw [z]; exact nit b u e
    · exact nit c _ z
theorem Inv.tok (I : Inv X pins σ H s) (t : Nat) : Inv X pins σ H { s with toks := t } := I.un (h' := s.heap) (t' := t) Un.refl I.hok
theorem Inv.kept {t' : Nat} (I : Inv X pins σ H s) (k : ∀ b u, s.heap.get? b = some u → h'.get? b = some u) : Inv X pins σ H { s with heap := h', toks := t' } := I.un (Un.kept k) (I.hok.kept k)
theorem Inv.laid {a : Addr} {o : HO} {t' : Nat} (I : Inv X pins σ H s) (k : ∀ b u, s.heap.get? b = some u → h'.get? b = some u) (hp : s.heap.objs.size ≤ a) (new : ObjOk X.prog X.w (upd H a o) h' a o) :
    Inv X pins σ (upd H a o) { s with heap := h', toks := t' } := I.un (Un.laid k hp (I.hok.fresh hp)) (I.hok.laid k hp new)
theorem Inv.write {x e : Addr} {o : HO} {t' : Nat} (I : Inv X pins σ H s) (mu : Mut (H x)) (he : e = x ∨ H e = some (.own x)) (k : ∀ b u, b ≠ e → s.heap.get? b = some u → h'.get? b = some u) (heo : ∃ u, h'.get? e = some u)
    (new : ObjOk X.prog X.w (upd H x o) h' x o) : Inv X pins σ (upd H x o) { s with heap := h', toks := t' } := I.un (Un.write mu he k heo) (I.hok.write mu he k heo new)
theorem Inv.pins_of {pins' : List (Addr × Obj)} (I : Inv X pins σ H s) (h : ∀ p ∈ pins', s.heap.get? p.1 = some p.2 ∧ H p.1 = none ∧ p.1 ≠ X.env.locals ∧ p.1 ∉ X.fs ∧ ∀ v, p.2.data ≠ .cell v) : Inv X pins' σ H s :=
  ⟨I.ok, I.os, I.bare, I.base, I.loc, I.cell, I.free, I.freeC, fun p hp => (List.mem_append.mp hp).elim (fun z => I.pin p (List.mem_append_left _ z)) (h p), I.hok, I.len⟩

theorem nodup_ix {N : List Str} (hN : N.Nodup) {i j : Nat} {x : Str} (a : N[i]? = some x) (b : N[j]? = some x) : i = j := by
  obtain ⟨h1, e1⟩ := List.getElem?_eq_some_iff.mp a
  obtain ⟨h2, e2⟩ := List.getElem?_eq_some_iff.mp b
  exact (List.getElem_inj hN).mp (e1.trans e2.symm)

theorem store_ok2 {M : Model} {A : Around} {E : Value → Shared → Prop} {i : Nat} {x : Str} {v : V} {u : Value} {Q : Unit → Shared → Prop} (I : Inv X pins σ H s) (hN : X.N.Nodup) (hi : X.N[i]? = some x) (hx : Loc X.env.scope x) (r : RelV v u)
    (h : ∀ s', Inv X pins (σ.set i (some v)) H s' → (∃ a, Heap.SameBut a s.heap s'.heap ∧ (a = X.env.locals ∨ X.env.cells.lookup x = some a)) → Q () s') (hf : X.fn x = true ∨ X.env.scope.names.lookup x = some .local := by first | exact .inl rfl | exact .inr rfl | assumption) : wpAny M A (storeName X.env x u) Q E s := by
  obtain ⟨m, hn, hl⟩ := id I.loc
  have hcls : (X.env.scope.kind == .class || (X.env.scope.kind == .module && X.env.locals != X.env.globals)) = false := by rw [I.ok.kind]; rfl
  have hiσ : i < σ.length := by rw [I.len]; exact (List.getElem?_eq_some_iff.mp hi).1
  have cne := I.cne
  have tracked : ∀ {a : Addr} {h' : Heap}, (∃ o, s.heap.get? a = some o ∧ H a = none) → Heap.SameBut a s.heap h' → HOk X.prog X.w H h' := fun {a h'} ha hs b ob e => by
    obtain ⟨_, _, hfree⟩ := ha
    refine (I.hok b ob e).stay (fun c w' hc q => (hs.2 c ?_).trans q) (fun _ q => q) fun _ _ q => q
    rintro rfl
    rcases hc with rfl | hc
    · rw [hfree] at e; cases e
    · rw [hfree] at hc; cases hc
  rcases hx with hk | hk
  · refine wpAny_storeName_local hk hn (fun h' hn' hs => ?_) hcls
    obtain ⟨oL, _, _, hoL, _⟩ := id hn
    refine h _ ⟨I.ok, I.os, I.bare, ⟨fun b o e n hb hx => ?_, fun b o e n hb hx => ?_, I.base.free, fun b o e hx => ?_, I.base.tups, I.base.frzs, I.base.tbls⟩, ⟨_, hn', fun j y v' e1 e2 e3 => ?_⟩, fun y c e => ?_, I.free, I.freeC, fun p hp => ?_, tracked ⟨oL, hoL, I.free⟩ hs, by simpa using I.len⟩ ⟨_, hs, .inl rfl⟩
    · exact (hs.2 b (Nat.ne_of_lt (Nat.lt_of_lt_of_le (Heap.lt_size e) I.ok.above))).trans (I.base.keep b o e n hb hx)
    · obtain ⟨sl, e1⟩ := I.base.slot b o e n hb hx
      exact ⟨sl, (hs.2 b (Nat.ne_of_lt (Nat.lt_of_lt_of_le (Heap.lt_size e) I.ok.above))).trans e1⟩
    · obtain ⟨o', e1⟩ := I.base.there b o e hx
      exact ⟨o', (hs.2 b (Nat.ne_of_lt (Nat.lt_of_lt_of_le (Heap.lt_size e) I.ok.above))).trans e1⟩
    · by_cases hj : j = i
      · subst hj
        rw [hi] at e1; cases e1
        rw [List.getElem?_set_self hiσ] at e2
        cases e2
        exact ⟨u, r, .inl ⟨hk, by simp⟩⟩
      · rw [List.getElem?_set_ne (Ne.symm hj)] at e2
        obtain ⟨u', r', q⟩ := hl j y v' e1 e2 e3
        refine ⟨u', r', ?_⟩
        rcases q with ⟨k, e⟩ | ⟨k, c, e, z⟩
        · refine .inl ⟨k, ?_⟩
          have : y ≠ x := fun e => hj (nodup_ix hN e1 (e ▸ hi))
          simp [this, e]
        · exact .inr ⟨k, c, e, z.sameBut hs (cne y c e)⟩
    · obtain ⟨w', z⟩ := I.cell y c e
      exact ⟨w', z.sameBut hs (cne y c e)⟩
    · obtain ⟨e, n, ne, nf, d⟩ := I.pin p hp
      exact ⟨(hs.2 p.1 ne).trans e, n, ne, nf, d⟩
  · have hfn : X.fn x = true := by
      rcases hf with z | z
      · exact z
      · rw [z] at hk; cases hk
    obtain ⟨c, hc⟩ := I.ok.has x (.inl hk)
    obtain ⟨w', z⟩ := I.cell x c hc
    refine wpAny_storeName_cell I.ok.kind hk hc z (fun h' hc' hs => ?_)
    obtain ⟨oc, hoc, hocd⟩ := id z
    refine h { s with heap := h' } ⟨I.ok, I.os, I.bare, ⟨fun b o e n hb hx => ?_, fun b o e n hb hx => ?_, I.base.free, fun b o e hx => ?_, I.base.tups, I.base.frzs, I.base.tbls⟩, ⟨m, hn.sameBut hs (Ne.symm (cne x c hc)), fun j y v' e1 e2 e3 => ?_⟩, fun y c' e => ?_, I.free, I.freeC, fun p hp => ?_, tracked ⟨oc, hoc, I.freeC x c hc⟩ hs, by simpa using I.len⟩ ⟨c, hs, .inr hc⟩
    · exact (hs.2 b (Nat.ne_of_lt (Nat.lt_of_lt_of_le (Heap.lt_size e) (I.ok.cab x c hfn hc)))).trans (I.base.keep b o e n hb hx)
    · obtain ⟨sl, e1⟩ := I.base.slot b o e n hb hx
      exact ⟨sl, (hs.2 b (Nat.ne_of_lt (Nat.lt_of_lt_of_le (Heap.lt_size e) (I.ok.cab x c hfn hc)))).trans e1⟩
    · obtain ⟨o', e1⟩ := I.base.there b o e hx
      exact ⟨o', (hs.2 b (Nat.ne_of_lt (Nat.lt_of_lt_of_le (Heap.lt_size e) (I.ok.cab x c hfn hc)))).trans e1⟩
    · by_cases hj : j = i
      · subst hj
        rw [hi] at e1; cases e1
        rw [List.getElem?_set_self hiσ] at e2
        cases e2
        exact ⟨u, r, .inr ⟨.inl hk, c, hc, hc'⟩⟩
      · rw [List.getElem?_set_ne (Ne.symm hj)] at e2
        obtain ⟨u', r', q⟩ := hl j y v' e1 e2 e3
        refine ⟨u', r', ?_⟩
        rcases q with q | ⟨k, c', e, z'⟩
        · exact .inl q
        · refine .inr ⟨k, c', e, z'.sameBut hs ?_⟩
          rintro rfl
          exact hj (nodup_ix hN e1 (I.ok.inj _ _ _ e hc ▸ hi))
    · by_cases hcc : c' = c
      · subst hcc; exact ⟨_, hc'⟩
      · obtain ⟨w2, z2⟩ := I.cell y c' e
        exact ⟨w2, z2.sameBut hs hcc⟩
    · obtain ⟨e, n, ne, nf, d⟩ := I.pin p hp
      refine ⟨(hs.2 p.1 ?_).trans e, n, ne, nf, d⟩
      intro q
      rw [q, hoc] at e
      have q' : oc = p.2 := Option.some.inj e
      exact d w' (by rw [← q']; exact hocd)
theorem store_ok {M : Model} {A : Around} {E : Value → Shared → Prop} {i : Nat} {x : Str} {v : V} {u : Value} {Q : Unit → Shared → Prop} (I : Inv X pins σ H s) (hN : X.N.Nodup) (hi : X.N[i]? = some x) (hx : Loc X.env.scope x) (r : RelV v u)
    (h : ∀ s', Inv X pins (σ.set i (some v)) H s' → Q () s') (hf : X.fn x = true ∨ X.env.scope.names.lookup x = some .local := by first | exact .inl rfl | exact .inr rfl | assumption) : wpAny M A (storeName X.env x u) Q E s :=
  store_ok2 I hN hi hx r (fun s' I' _ => h s' I') hf
theorem Inv.call' {s' : Shared} {ch : List Addr} (I : Inv X pins σ H s) (ho : s'.os = s.os) (u : Un (frs X.stack) ch H H' s.heap s'.heap) (hok : HOk X.prog X.w H' s'.heap) (hg : AllBare s'.gens)
    (hch : ∀ b ∈ ch, (b ∈ X.ex ∨ X.s₀.heap.objs.size ≤ b) ∧ b ≠ X.env.locals ∧ (∀ x c, X.env.cells.lookup x = some c → c ≠ b) ∧ ∀ p ∈ X.pn ++ pins, p.1 ≠ b) : Inv X pins σ H' s' := by
  obtain ⟨h', g', d', t', o'⟩ := s'
  have e : o' = s.os := ho
  subst e
  exact I.call (g' := g') (t' := t') (d' := d') u hok hg hch
end

/-! ### the judgements -/
abbrev XK := Value → Option Addr → Hp → Prop
abbrev St := List (Option V)
abbrev VK := V → Hp → Prop
abbrev TE := St → Hp → VK → Prop
abbrev TT := St → Hp → (Bool → Hp → Prop) → Prop
abbrev TA := St → Hp → (List V → Hp → Prop) → Prop
structure Ends where
  nx : St → Hp → Prop
  rt : VK
  bk : St → Hp → Prop := fun _ _ => False
  ct : St → Hp → Prop := fun _ _ => False
abbrev TS := Ends → St → Hp → Prop

def EP (X : Cx) (pins : List (Addr × Obj)) (σ : St) (Q : VK) (u : Value) (s' : Shared) : Prop := ∃ v H', Inv X pins σ H' s' ∧ RelV v u ∧ Q v H'
def TP (X : Cx) (pins : List (Addr × Obj)) (σ : St) (Q : Bool → Hp → Prop) (b : Bool) (s' : Shared) : Prop := ∃ H', Inv X pins σ H' s' ∧ Q b H'
def AP (X : Cx) (pins : List (Addr × Obj)) (σ : St) (Q : List V → Hp → Prop) (us : List Value) (s' : Shared) : Prop := ∃ vs H', Inv X pins σ H' s' ∧ Vals vs us ∧ Q vs H'
def SP (X : Cx) (pins : List (Addr × Obj)) (D : Ends) (f : Flow) (s' : Shared) : Prop :=
  match f with
  | .next => ∃ σ' H', Inv X pins σ' H' s' ∧ D.nx σ' H'
  | .brk => ∃ σ' H', Inv X pins σ' H' s' ∧ D.bk σ' H'
  | .cont => ∃ σ' H', Inv X pins σ' H' s' ∧ D.ct σ' H'
  | .ret u => ∃ v σ' H', Inv X pins σ' H' s' ∧ RelV v u ∧ D.rt v H'

def PE (X : Cx) (e : Expr) (t : TE) : Prop :=
  ∀ (pins : List (Addr × Obj)) (s : Shared) (σ : St) (H : Hp) (Q : VK), Inv X pins σ H s → t σ H Q → wpAny (model X.prog X.w) X.A (eval e X.env) (EP X pins σ Q) X.xe s
def PT (X : Cx) (e : Expr) (t : TT) : Prop :=
  ∀ (pins : List (Addr × Obj)) (s : Shared) (σ : St) (H : Hp) (Q : Bool → Hp → Prop), Inv X pins σ H s → t σ H Q → wpAny (model X.prog X.w) X.A (isTrue e X.env (eval e X.env)) (TP X pins σ Q) X.xe s
def PW (X : Cx) (e : Expr) (t : TT) : Prop :=
  ∀ (whole : Sem Value) (pins : List (Addr × Obj)) (s : Shared) (σ : St) (H : Hp) (Q : Bool → Hp → Prop), Inv X pins σ H s → t σ H Q → wpAny (model X.prog X.w) X.A (isTrue e X.env whole) (TP X pins σ Q) X.xe s
theorem PW.pt {X : Cx} {e : Expr} {t : TT} (h : PW X e t) : PT X e t := h _
def PA (X : Cx) (es : List Expr) (t : TA) : Prop :=
  ∀ (pos : Pos) (pins : List (Addr × Obj)) (s : Shared) (σ : St) (H : Hp) (Q : List V → Hp → Prop), Inv X pins σ H s → t σ H Q → wpAny (model X.prog X.w) X.A (spliced (backTo pos (starEach es X.env))) (AP X pins σ Q) X.xe s
def PS (X : Cx) (st : Stmt) (t : TS) : Prop :=
  ∀ (pins : List (Addr × Obj)) (s : Shared) (σ : St) (H : Hp) (D : Ends), Inv X pins σ H s → t D σ H → wpAny (model X.prog X.w) X.A (exec st X.env) (SP X pins D) X.xe s
def PSs (X : Cx) (st : List Stmt) (t : TS) : Prop :=
  ∀ (pins : List (Addr × Obj)) (s : Shared) (σ : St) (H : Hp) (D : Ends), Inv X pins σ H s → t D σ H → wpAny (model X.prog X.w) X.A (execs st X.env) (SP X pins D) X.xe s
theorem thn {α : Type} {t : Sem α} {Q Q' : α → Shared → Prop} {M : Model} {A : Around} {E : Value → Shared → Prop} {s : Shared} (h : wpAny M A t Q E s) (hQ : ∀ a s, Q a s → Q' a s) : wpAny M A t Q' E s := wpAny_mono h hQ fun _ _ x => x
end L2

namespace L2
open PySem PySem.Spec PyProof.Rows
section
variable {X : Cx}

theorem bin {a b : Expr} {ta tb : TE} (ha : PE X a ta) (hb : PE X b tb) {pins : List (Addr × Obj)} {s : Shared} {σ : St} {H : Hp} {R : V → V → Hp → Prop} (I : Inv X pins σ H s) (h : ta σ H fun x H1 => tb σ H1 fun y H2 => R x y H2)
    {α : Type} {Q : α → Shared → Prop} {f : Value → Value → Sem α}
    (hf : ∀ v u s2 x y H2, Inv X pins σ H2 s2 → RelV x v → RelV y u → R x y H2 → wpAny (model X.prog X.w) X.A (f v u) Q X.xe s2) :
    wpAny (model X.prog X.w) X.A (eval a X.env) (fun v s₁ => wpAny (model X.prog X.w) X.A (eval b X.env) (fun u s₂ => wpAny (model X.prog X.w) X.A (f v u) Q X.xe s₂) X.xe s₁) X.xe s := by
  refine thn (ha pins s σ H _ I h) fun v s1 ⟨x, H1, I1, r1, q1⟩ => ?_
  refine thn (hb pins s1 σ H1 _ I1 q1) fun u s2 ⟨y, H2, I2, r2, q2⟩ => ?_
  exact hf v u s2 x y H2 I2 r1 r2 q2

/-! ### names and constants -/
def tVar (i : Nat) : TE := fun σ H Q => ∃ v, σ[i]? = some (some v) ∧ Q v H
def tC (v : V) : TE := fun _ H Q => Q v H
theorem pe_var {i : Nat} {x : Str} {pos : Pos} (hN : X.N[i]? = some x) (hv : Vis X.env.scope x) (hd : (x == ("__debug__" : Str)) = false := by decide) (hcd : (x == ("__classdict__" : Str)) = false := by decide) : PE X (.Name x pos) (tVar i) := by
  intro pins s σ H Q I h
  obtain ⟨v, e, h⟩ := h
  obtain ⟨m, hn, hl⟩ := I.loc
  obtain ⟨u, r, l⟩ := hl i x v hN e hv
  have fin : EP X pins σ Q u s := ⟨v, H, I, r, h⟩
  rcases l with ⟨hk, hm⟩ | ⟨hk, c, hc, hcell⟩
  · exact wpAny_Name (wpAny_loadName_local I.ok.kind hk hn hm fin) hd
  · rcases hk with hk | hk
    · exact wpAny_Name (wpAny_loadName_cell I.ok.kind hk hc hcell fin) hd
    · exact wpAny_Name (wpAny_loadName_free I.ok.kind hk hc hcell fin hcd) hd
theorem pe_int {i j pos} : PE X (.Constant (.int i) j pos) (tC (.int i)) := fun _ _ _ H _ I h => wpAny_Constant_int ⟨.int i, H, I.tok _, ⟨_, rfl⟩, h⟩
theorem pe_bl {b j pos} : PE X (.Constant (.bool b) j pos) (tC (.bl b)) := fun _ _ _ H _ I h => Constant_bool ⟨.bl b, H, I, rfl, h⟩
theorem pe_non {j pos} : PE X (.Constant .none j pos) (tC .non) := fun _ _ _ H _ I h => Constant_none ⟨.non, H, I, rfl, h⟩
theorem pe_str {x j pos} : PE X (.Constant (.str x) j pos) (tC (.str x)) := fun _ _ _ H _ I h => Calls.Constant_str ⟨.str x, H, I.tok _, ⟨_, rfl⟩, h⟩

def Gl (X : Cx) (x : Str) : Prop := X.env.kindOf x = some .globalImplicit
theorem ld_glob {E : Value → Shared → Prop} {pins : List (Addr × Obj)} {s : Shared} {σ : St} {H : Hp} {x : Str} {u : Value} {pos : Pos} {Q : Value → Shared → Prop} (I : Inv X pins σ H s) (hg : Gl X x) (hm : X.mg x = some u) (h : Q u s)
    (hd : (x == ("__debug__" : Str)) = false := by decide) : wpAny (model X.prog X.w) X.A (eval (.Name x pos) X.env) Q E s :=
  Calls.Name_function_global I.ok.kind hg (Calls.loadGlobal_global (by rw [I.ok.glob]; exact I.mod.glob.keeps I.bk) hm h) hd
theorem ld_blt {E : Value → Shared → Prop} {pins : List (Addr × Obj)} {s : Shared} {σ : St} {H : Hp} {x : Str} {u : Value} {pos : Pos} {Q : Value → Shared → Prop} (I : Inv X pins σ H s) (hg : Gl X x) (hm : X.mg x = none) (hv : bootBuiltins x = some u) (h : Q u s)
    (hn : x ≠ "__name__" := by decide) (hd : (x == ("__debug__" : Str)) = false := by decide) : wpAny (model X.prog X.w) X.A (eval (.Name x pos) X.env) Q E s := by
  obtain ⟨mb, h1, h2⟩ := I.mod.blt
  exact Calls.Name_function_global I.ok.kind hg (Calls.loadGlobal_builtin (by rw [I.ok.glob]; exact I.mod.glob.keeps I.bk) hm (by rw [I.ok.blt]; exact h1.keeps I.bk) ((h2 x hn).trans hv) h) hd
theorem pe_glob {x : Str} {v : V} {u : Value} {pos : Pos} (hg : Gl X x) (hm : X.mg x = some u) (r : RelV v u) (hd : (x == ("__debug__" : Str)) = false := by decide) : PE X (.Name x pos) (tC v) :=
  fun _ _ _ H _ I h => ld_glob I hg hm ⟨v, H, I, r, h⟩ hd
theorem pe_bltn {x : Str} {v : V} {u : Value} {pos : Pos} (hg : Gl X x) (hm : X.mg x = none) (hv : bootBuiltins x = some u) (r : RelV v u) (hn : x ≠ "__name__" := by decide) (hd : (x == ("__debug__" : Str)) = false := by decide) : PE X (.Name x pos) (tC v) :=
  fun _ _ _ H _ I h => ld_blt I hg hm hv ⟨v, H, I, r, h⟩ hn hd

/-! ### arithmetic -/
variable {a b : Expr} {ta tb : TE} {pos : Pos}
/-! ### comparisons -/
def PC (X : Cx) (op : CmpOp) (a b : Expr) (t : TE) : Prop :=
  ∀ (pins : List (Addr × Obj)) (s : Shared) (σ : St) (H : Hp) (Q : VK), Inv X pins σ H s → t σ H Q →
    wpAny (model X.prog X.w) X.A (eval a X.env) (fun v s₁ => wpAny (model X.prog X.w) X.A (eval b X.env) (fun u s₂ => wpAny (model X.prog X.w) X.A (compareOp op v u) (EP X pins σ Q) X.xe s₂) X.xe s₁) X.xe s
def tB (t : TE) : TT := fun σ H Q => t σ H fun x H1 => ∃ c, x = .bl c ∧ Q c H1
theorem pt_cmp {op : CmpOp} {t : TE} (h : PC X op a b t) (h1 : behindInMarks op b = false := by first | exact nobehind _ (by decide) (by decide) | rfl) : PT X (.Compare a [op] [b] pos) (tB t) := by
  intro pins s σ H Q I hw
  refine wpAny_isTrue_Compare1 (thn (h pins s σ H _ I hw) fun v s1 h1 => thn h1 fun u s2 h2 => thn h2 fun c s3 ⟨x, H1, I1, r1, q1⟩ => ?_) h1
  obtain ⟨d, rfl, q⟩ := q1
  cases r1
  exact wpAny_truthy_bool ⟨H1, I1, q⟩
theorem pt_val {e : Expr} {t : TE} (h : PE X e t) (he : ∀ whole, isTrue e X.env whole = (do let v ← whole; standAt e.pos; holding [v] (truthy v)) := by intro _; rfl) : PT X e (tB t) := by
  intro pins s σ H Q I hw
  refine isTrue_plain (thn (h pins s σ H _ I hw) fun v s1 ⟨x, H1, I1, r1, q1⟩ => ?_) (he _)
  obtain ⟨d, rfl, q⟩ := q1
  cases r1
  exact wpAny_truthy_bool ⟨H1, I1, q⟩

/-! ### and, or, not -/
variable {tA tB' : TT} {rest : List Expr}
def tAnd (t u : TT) : TT := fun σ H Q => t σ H fun c H1 => if c = true then u σ H1 Q else Q false H1
def tOr (t u : TT) : TT := fun σ H Q => t σ H fun c H1 => if c = true then Q true H1 else u σ H1 Q
def tNot (t : TT) : TT := fun σ H Q => t σ H fun c H1 => Q (!c) H1
theorem pw_and1 (ha : PT X a tA) : PW X (.BoolOp .And [a] pos) tA := by
  intro wh pins s σ H Q I h
  refine isTrue_and (thn (ha pins s σ H Q I h) fun c s1 e => ?_)
  cases c with
  | true => exact isTrue_and_nil e
  | false => exact e
theorem pw_or1 (ha : PT X a tA) : PW X (.BoolOp .Or [a] pos) tA := by
  intro wh pins s σ H Q I h
  refine isTrue_or (thn (ha pins s σ H Q I h) fun c s1 e => ?_)
  cases c with
  | false => exact isTrue_or_nil e
  | true => exact e
theorem pw_and (ha : PT X a tA) (hb : PW X (.BoolOp .And (b :: rest) pos) tB') : PW X (.BoolOp .And (a :: b :: rest) pos) (tAnd tA tB') := by
  intro wh pins s σ H Q I h
  refine isTrue_and (thn (ha pins s σ H _ I h) fun c s1 ⟨H1, I1, q1⟩ => ?_)
  cases c with
  | true => exact hb wh pins s1 σ H1 Q I1 q1
  | false => exact ⟨H1, I1, q1⟩
theorem pw_or (ha : PT X a tA) (hb : PW X (.BoolOp .Or (b :: rest) pos) tB') : PW X (.BoolOp .Or (a :: b :: rest) pos) (tOr tA tB') := by
  intro wh pins s σ H Q I h
  refine isTrue_or (thn (ha pins s σ H _ I h) fun c s1 ⟨H1, I1, q1⟩ => ?_)
  cases c with
  | true => exact ⟨H1, I1, q1⟩
  | false => exact hb wh pins s1 σ H1 Q I1 q1
theorem pt_not (ha : PT X a tA) : PT X (.UnaryOp .Not a pos) (tNot tA) := by
  intro pins s σ H Q I h
  exact isTrue_not (ha pins s σ H (fun c H1 => Q (!c) H1) I h)
def tAndV (ta tb : TE) : TE := fun σ H Q => ta σ H fun x H1 => ∃ c, x = .bl c ∧ if c = true then tb σ H1 Q else Q (.bl false) H1
def tOrV (ta tb : TE) : TE := fun σ H Q => ta σ H fun x H1 => ∃ c, x = .bl c ∧ if c = true then Q (.bl true) H1 else tb σ H1 Q
def tNotV (ta : TE) : TE := fun σ H Q => ta σ H fun x H1 => ∃ c, x = .bl c ∧ Q (.bl (!c)) H1
theorem pe_one {op} {t : TE} (h : PE X a t) : PE X (.BoolOp op [a] pos) t := fun pins s σ H Q I hw => BoolOp_one (h pins s σ H Q I hw)
theorem pe_and (ha : PE X a ta) (hb : PE X (.BoolOp .And (b :: rest) pos) tb) : PE X (.BoolOp .And (a :: b :: rest) pos) (tAndV ta tb) := by
  intro pins s σ H Q I h
  refine BoolOp_and (thn (ha pins s σ H _ I h) fun v s1 ⟨x, H1, I1, r1, q1⟩ => ?_)
  obtain ⟨c, rfl, q1⟩ := q1
  cases r1
  refine wpAny_truthy_bool ?_
  cases c with
  | true => exact hb pins s1 σ H1 Q I1 q1
  | false => exact ⟨.bl false, H1, I1, rfl, q1⟩
theorem pe_or (ha : PE X a ta) (hb : PE X (.BoolOp .Or (b :: rest) pos) tb) : PE X (.BoolOp .Or (a :: b :: rest) pos) (tOrV ta tb) := by
  intro pins s σ H Q I h
  refine BoolOp_or (thn (ha pins s σ H _ I h) fun v s1 ⟨x, H1, I1, r1, q1⟩ => ?_)
  obtain ⟨c, rfl, q1⟩ := q1
  cases r1
  refine wpAny_truthy_bool ?_
  cases c with
  | false => exact hb pins s1 σ H1 Q I1 q1
  | true => exact ⟨.bl true, H1, I1, rfl, q1⟩
theorem pe_not (ha : PE X a ta) : PE X (.UnaryOp .Not a pos) (tNotV ta) := by
  intro pins s σ H Q I h
  refine UnaryOp_ (thn (ha pins s σ H _ I h) fun v s1 ⟨x, H1, I1, r1, q1⟩ => ?_)
  obtain ⟨c, rfl, q1⟩ := q1
  cases r1
  exact not_of (wpAny_truthy_bool ⟨.bl (!c), H1, I1, rfl, q1⟩)
def tIf (t : TT) (ta tb : TE) : TE := fun σ H Q => t σ H fun c H1 => if c = true then ta σ H1 Q else tb σ H1 Q
theorem pe_ifExp {c : Expr} (hc : PT X c tA) (ha : PE X a ta) (hb : PE X b tb) : PE X (.IfExp c a b pos) (tIf tA ta tb) := by
  intro pins s σ H Q I h
  refine wpAny_IfExp (thn (hc pins s σ H _ I h) fun d s1 ⟨H1, I1, q1⟩ => ?_)
  cases d with
  | true => exact ha pins s1 σ H1 Q I1 q1
  | false => exact hb pins s1 σ H1 Q I1 q1
end
end L2

namespace L2
open PySem PySem.Spec PyProof.Rows

/-! ### a list, a tuple that is read: tracked, frozen, or an object of the module -/
def SqL (K : PySem.W.Frag) (H : Hp) (a : Addr) (xs : List V) : Prop :=
  Rd H a (.lst xs) ∨
    ∃ (o : Obj) (its : Array Value) (n : Nat), K.lookup a = some o ∧ o.cls = .type "list" ∧ o.dict = none ∧ o.data = .seq its n ∧ its.size ≤ sizeLine ∧ Vals xs its.toList
def SqT (K : PySem.W.Frag) (H : Hp) (a : Addr) (xs : List V) : Prop :=
  Rd H a (.tup xs) ∨
    ∃ (o : Obj) (its : Array Value) (n : Nat), K.lookup a = some o ∧ o.cls = .type "tuple" ∧ o.data = .seq its n ∧ its.size ≤ sizeLine ∧ Vals xs its.toList
def absV : Value → Option V
  | .none => some .non
  | .bool b => some (.bl b)
  | .int i _ => some (.int i)
  | .str x _ => some (.str x)
  | .bytes b _ => some (.byt b)
  | .float b _ => some (.flt b)
  | .ref a => some (.ref a)
  | .type n => some (.ty n)
  | _ => none
theorem RelV.abs {x : V} {u : Value} (r : RelV x u) : absV u = some x := by
  cases x with
  | non => cases r; rfl
  | bl _ => cases r; rfl
  | int _ => obtain ⟨t, rfl⟩ := r; rfl
  | str _ => obtain ⟨t, rfl⟩ := r; rfl
  | byt _ => obtain ⟨t, rfl⟩ := r; rfl
  | flt _ => obtain ⟨t, rfl⟩ := r; rfl
  | ref _ => cases r; rfl
  | ty _ => cases r; rfl
theorem RelV.inj {x y : V} {u : Value} (r : RelV x u) (q : RelV y u) : x = y := Option.some.inj (r.abs.symm.trans q.abs)
theorem Vals.inj {xs ys : List V} {us : List Value} (h : Vals xs us) (h' : Vals ys us) : xs = ys := by
  induction h generalizing ys with
  | nil => cases h'; rfl
  | cons r t ih => cases h' with
    | cons r' t' => rw [r.inj r', ih t']
section
variable {X : Cx} {pins : List (Addr × Obj)} {σ : St} {H : Hp} {s : Shared} {a : Addr} {xs ys : List V}
theorem SqL.of {K : PySem.W.Frag} (h : H a = some (.lst xs)) : SqL K H a xs := .inl (.inl h)
theorem SqT.of {K : PySem.W.Frag} (h : H a = some (.tup xs)) : SqT K H a xs := .inl (.inl h)
theorem Inv.list (I : Inv X pins σ H s) (h : SqL X.K H a xs) : ∃ its : List Value, Vals xs its ∧ PlainL s.heap a its.toArray ∧ xs.length ≤ sizeLine := by
  rcases h with h | ⟨o, its, n, hk, hc, hd, hs, hz, r⟩
  · obtain ⟨z, its, n, r, e⟩ := h.ok I.hok
    exact ⟨its, r, ⟨_, n, e, rfl, rfl, rfl⟩, z⟩
  · refine ⟨its.toList, r, ⟨o, n, I.kIn a o hk, hc, hd, by simpa using hs⟩, ?_⟩
    have e := r.length
    simp only [Array.length_toList] at e
    omega
theorem Inv.tuple (I : Inv X pins σ H s) (h : SqT X.K H a xs) : ∃ its : List Value, Vals xs its ∧ IsTup s.heap a its.toArray ∧ xs.length ≤ sizeLine := by
  rcases h with h | ⟨o, its, n, hk, hc, hs, hz, r⟩
  · obtain ⟨z, its, r, p⟩ := h.ok I.hok
    exact ⟨its, r, p, z⟩
  · refine ⟨its.toList, r, ⟨o, I.kIn a o hk, hc, n, by simpa using hs⟩, ?_⟩
    have e := r.length
    simp only [Array.length_toList] at e
    omega
theorem Inv.list_inj (I : Inv X pins σ H s) (h : SqL X.K H a xs) (h' : SqL X.K H a ys) : xs = ys := by
  obtain ⟨its, r, ⟨o, n, e, _, _, d⟩, _⟩ := I.list h
  obtain ⟨its', r', ⟨o', n', e', _, _, d'⟩, _⟩ := I.list h'
  rw [e] at e'; cases e'
  rw [d] at d'
  injection d' with d1 _
  have : its = its' := by simpa using congrArg Array.toList d1
  subst this
  exact r.inj r'
theorem Inv.tuple_inj (I : Inv X pins σ H s) (h : SqT X.K H a xs) (h' : SqT X.K H a ys) : xs = ys := by
  obtain ⟨its, r, ⟨o, e, _, n, d⟩, _⟩ := I.tuple h
  obtain ⟨its', r', ⟨o', e', _, n', d'⟩, _⟩ := I.tuple h'
  rw [e] at e'; cases e'
  rw [d] at d'
  injection d' with d1 _
  have : its = its' := by simpa using congrArg Array.toList d1
  subst this
  exact r.inj r'
end

/-! ### another wish about exceptions -/
abbrev Cx.wish (X : Cx) (E : Value → Shared → Prop) : Cx := { X with xe := E }
abbrev Cx.nox (X : Cx) : Cx := X.wish fun _ _ => False
theorem Cx.Ok.wish {X : Cx} (ok : X.Ok) (E : Value → Shared → Prop) : (X.wish E).Ok :=
  ⟨ok.mod, ok.kind, ok.glob, ok.blt, ok.above, ok.inj, ok.has, ok.cab, ok.hd, ok.frames, ok.stk, ok.exf, ok.bs, ok.bsz, ok.noex, ok.exfs, ok.funs, ok.frf⟩
theorem Cx.Ok.unwish {X : Cx} {E : Value → Shared → Prop} (ok : (X.wish E).Ok) : X.Ok :=
  ⟨ok.mod, ok.kind, ok.glob, ok.blt, ok.above, ok.inj, ok.has, ok.cab, ok.hd, ok.frames, ok.stk, ok.exf, ok.bs, ok.bsz, ok.noex, ok.exfs, ok.funs, ok.frf⟩
section
variable {X : Cx} {pins : List (Addr × Obj)} {σ : St} {H : Hp} {s : Shared} {E : Value → Shared → Prop}
theorem Inv.wish (I : Inv X pins σ H s) (E : Value → Shared → Prop) : Inv (X.wish E) pins σ H s := ⟨I.ok.wish E, I.os, I.bare, I.base, I.loc, I.cell, I.free, I.freeC, I.pin, I.hok, I.len⟩
theorem Inv.unwish (I : Inv (X.wish E) pins σ H s) : Inv X pins σ H s := ⟨I.ok.unwish, I.os, I.bare, I.base, I.loc, I.cell, I.free, I.freeC, I.pin, I.hok, I.len⟩
theorem SP.unwish {D : Ends} {f : Flow} {s' : Shared} (h : SP (X.wish E) pins D f s') : SP X pins D f s' := by
  cases f with
  | next => obtain ⟨σ', H', I, q⟩ := h; exact ⟨σ', H', I.unwish, q⟩
  | brk => obtain ⟨σ', H', I, q⟩ := h; exact ⟨σ', H', I.unwish, q⟩
  | cont => obtain ⟨σ', H', I, q⟩ := h; exact ⟨σ', H', I.unwish, q⟩
  | ret u => obtain ⟨v, σ', H', I, r, q⟩ := h; exact ⟨v, σ', H', I.unwish, r, q⟩
theorem PSs.nox {st : List Stmt} {t : TS} (h : PSs X.nox st t) : PSs X st t := fun pins s σ H D I hw =>
  wpAny_mono (h pins s σ H D (I.wish _) hw) (fun _ _ q => q.unwish) fun _ _ z => False.elim z
end

/-! ### blocks and small statements -/
section
variable {X : Cx} {st : Stmt} {rest : List Stmt} {t u : TS} {e : Expr} {te : TE} {pos : Pos}
def tNext : TS := fun D σ H => D.nx σ H
def tSeq (t u : TS) : TS := fun D σ H => t { D with nx := u D } σ H
theorem pss_nil : PSs X [] tNext := fun _ _ σ H _ I h => wpAny_execs_nil ⟨σ, H, I, h⟩
theorem pss_cons (h1 : PS X st t) (h2 : PSs X rest u) : PSs X (st :: rest) (tSeq t u) := by
  intro pins s σ H D I h
  refine wpAny_execs_cons (thn (h1 pins s σ H { D with nx := u D } I h) fun f s1 q => ?_)
  cases f with
  | next =>
    obtain ⟨σ', H', I', q⟩ := q
    exact h2 pins s1 σ' H' D I' q
  | ret v => exact q
  | brk => exact q
  | cont => exact q
theorem pss_one (h1 : PS X st t) : PSs X [st] t := by
  intro pins s σ H D I h
  refine wpAny_execs_cons (thn (h1 pins s σ H D I h) fun f s1 q => ?_)
  cases f with
  | next => exact wpAny_execs_nil q
  | ret v => exact q
  | brk => exact q
  | cont => exact q
theorem Inv.quiet {pins : List (Addr × Obj)} {σ : St} {H : Hp} {s : Shared} (I : Inv X pins σ H s) : interactive X.env = false := by simp [interactive, I.ok.kind]
def tDrop (te : TE) : TS := fun D σ H => te σ H fun _ H1 => D.nx σ H1
theorem ps_expr (he : PE X e te) (hs : swapsWith e none pos.line X.env = pure false := by rfl) : PS X (.Expr e pos) (tDrop te) := by
  intro pins s σ H D I h
  exact wpAny_Expr_any (thn (he pins s σ H _ I h) fun v s1 ⟨x, H1, I1, r1, q1⟩ => ⟨σ, H1, I1, q1⟩) I.quiet hs
def tRet (te : TE) : TS := fun D σ H => te σ H D.rt
theorem ps_ret (he : PE X e te) : PS X (.Return (some e) pos) (tRet te) := by
  intro pins s σ H D I h
  exact wpAny_Return_some (thn (he pins s σ H _ I h) fun v s1 ⟨x, H1, I1, r1, q1⟩ => ⟨x, σ, H1, I1, r1, q1⟩)
def tIfS (c : TT) (t u : TS) : TS := fun D σ H => c σ H fun b H1 => if b = true then t D σ H1 else u D σ H1
theorem ps_if {c : Expr} {a b : List Stmt} {tc : TT} (hc : PT X c tc) (ha : PSs X a t) (hb : PSs X b u) : PS X (.If c a b pos) (tIfS tc t u) := by
  intro pins s σ H D I h
  refine wpAny_If (thn (hc pins s σ H _ I h) fun d s1 ⟨H1, I1, q1⟩ => ?_)
  cases d with
  | true => exact ha pins s1 σ H1 D I1 q1
  | false => exact hb pins s1 σ H1 D I1 q1
end

/-! ### targets -/
abbrev TG := V → St → Hp → (St → Hp → Prop) → Prop
abbrev TGs := List V → St → Hp → (St → Hp → Prop) → Prop
def PG (X : Cx) (target : Expr) (t : TG) : Prop :=
  ∀ (pins : List (Addr × Obj)) (s : Shared) (σ : St) (H : Hp) (v : V) (u : Value) (Q : St → Hp → Prop), Inv X pins σ H s → RelV v u → t v σ H Q →
    wpAny (model X.prog X.w) X.A (assign target X.env u) (fun _ s' => ∃ σ' H', Inv X pins σ' H' s' ∧ Q σ' H') X.xe s
def PGs (X : Cx) (ts : List Expr) (t : TGs) : Prop :=
  ∀ (pins : List (Addr × Obj)) (s : Shared) (σ : St) (H : Hp) (vs : List V) (us : List Value) (Q : St → Hp → Prop), Inv X pins σ H s → Vals vs us → t vs σ H Q →
    wpAny (model X.prog X.w) X.A (assignInOrder ((assignEach ts X.env).map (·.2)) us) (fun _ s' => ∃ σ' H', Inv X pins σ' H' s' ∧ Q σ' H') X.xe s
section
variable {X : Cx} {pos : Pos}
def gName (i : Nat) : TG := fun v σ H Q => Q (σ.set i (some v)) H
theorem pg_name {i : Nat} {x : Str} (hN : X.N.Nodup) (hi : X.N[i]? = some x) (hx : Loc X.env.scope x) (hf : X.fn x = true ∨ X.env.scope.names.lookup x = some .local := by first | exact .inl rfl | exact .inr rfl | assumption) : PG X (.Name x pos) (gName i) := by
  intro pins s σ H v u Q I r h
  exact wpAny_assign_Name (store_ok I hN hi hx r (fun s' I' => ⟨_, H, I', h⟩) hf)
def gNil : TGs := fun vs σ H Q => vs = [] ∧ Q σ H
def gCons (t : TG) (u : TGs) : TGs := fun vs σ H Q => ∃ v r, vs = v :: r ∧ t v σ H fun σ' H' => u r σ' H' Q
theorem pgs_nil : PGs X [] gNil := by
  intro pins s σ H vs us Q I r h
  obtain ⟨e, h⟩ := h
  subst e
  cases r
  exact assignInOrder_nil ⟨σ, H, I, h⟩
theorem pgs_cons {e : Expr} {es : List Expr} {t : TG} {u : TGs} (h1 : PG X e t) (h2 : PGs X es u)
    (hs : (assignEach (e :: es) X.env).map (·.2) = assign e X.env :: (assignEach es X.env).map (·.2) := by rfl) : PGs X (e :: es) (gCons t u) := by
  intro pins s σ H vs us Q I r h
  obtain ⟨v, vr, e1, h⟩ := h
  subst e1
  cases r with
  | cons r rr =>
    rw [hs]
    refine assignInOrder_cons (thn (h1 pins s σ H _ _ _ I r h) fun _ s1 ⟨σ1, H1, I1, q1⟩ => ?_)
    exact h2 pins s1 σ1 H1 _ _ Q I1 rr q1
def gTup (K : PySem.W.Frag) (n : Nat) (t : TGs) : TG := fun v σ H Q => ∃ a xs, v = .ref a ∧ SqT K H a xs ∧ xs.length = n ∧ t xs σ H Q
theorem pg_tup {es : List Expr} {k : Nat} {t : TGs} {n : Nat} (hc : X.calm = true) (h : PGs X es t)
    (hn : (assignEach es X.env).length = n := by rfl) (hst : (assignEach es X.env).findIdx? (·.1) = none := by rfl) : PG X (.Tuple es k pos) (gTup X.K n t) := by
  intro pins s σ H v u Q I r hw
  obtain ⟨a, xs, e1, hq, hl, hw⟩ := hw
  subst e1
  cases r
  obtain ⟨its, rv, ht, hz⟩ := I.tuple hq
  refine assign_Tuple_tuple (I.ok.hd hc) ht (by simp [hn, ← hl, rv.length]) hst fun h' hx => ?_
  have I1 : Inv X pins σ H { s with heap := h' } := I.kept (t' := s.toks) fun b o e => hx b o (Nat.ne_of_lt (Heap.lt_size e)) e
  exact h pins _ σ H xs _ Q I1 (by simpa using rv) hw
def tAsg (te : TE) (g : TG) : TS := fun D σ H => te σ H fun x H1 => g x σ H1 D.nx
theorem ps_set {i : Nat} {x : Str} {e : Expr} {te : TE} {pos' : Pos} (hN : X.N.Nodup) (hi : X.N[i]? = some x) (hx : Loc X.env.scope x) (he : PE X e te) (hs : swapsWith e (some (.Name x pos')) pos.line X.env = pure false := by rfl) (hf : X.fn x = true ∨ X.env.scope.names.lookup x = some .local := by first | exact .inl rfl | exact .inr rfl | assumption) :
    PS X (.Assign [.Name x pos'] e pos) (tAsg te (gName i)) := by
  intro pins s σ H D I h
  refine wpAny_Assign_Name (thn (he pins s σ H _ I h) fun v s1 ⟨y, H1, I1, r1, q1⟩ => ?_) hs
  exact store_ok I1 hN hi hx r1 (fun s2 I2 => ⟨_, H1, I2, q1⟩) hf
end

/-! ### while -/
section
variable {X : Cx} {pos : Pos}
end

/-! ### what a loop or a comprehension walks -/
structure It where
  go : Nat → Hp → Prop
  yld : Nat → Hp → V → Hp → Prop
  stop : Nat → Hp → Prop
def FpOk (X : Cx) (pins : List (Addr × Obj)) (H : Hp) (b : Addr) : Prop :=
  H b = none ∧ b ≠ X.env.locals ∧ b ∉ X.fs ∧ (b ∈ X.ex ∨ X.s₀.heap.objs.size ≤ b) ∧ (∀ x c, X.env.cells.lookup x = some c → c ≠ b) ∧ ∀ p ∈ X.pn ++ pins, p.1 ≠ b
theorem Inv.fpOk {X : Cx} {pins : List (Addr × Obj)} {σ : St} {H H' : Hp} {s : Shared} {b : Addr} (I : Inv X pins σ H s) (hb : s.heap.objs.size ≤ b) (hn : H' b = none) : FpOk X pins H' b := by
  refine ⟨hn, Nat.ne_of_gt (Nat.lt_of_lt_of_le I.lt hb), I.nofs hb, .inr (Nat.le_trans I.sz hb), fun x c e z => ?_, fun p hp z => ?_⟩
  · obtain ⟨v, q⟩ := I.cell x c e
    exact absurd (Nat.lt_of_lt_of_le q.lt (by rw [z]; exact hb)) (Nat.lt_irrefl _)
  · exact absurd (Nat.lt_of_lt_of_le (Heap.lt_size (I.pin p hp).1) (by rw [z]; exact hb)) (Nat.lt_irrefl _)
structure Turn (P : Program) (w : World) (K : PySem.W.Frag) (tg : Expr) (J : It) (fp : List Addr) (it : Addr) (tn : Nat → Heap → Prop) : Prop where
  mem : it ∈ fp
  obj : ∀ i h, tn i h → ∀ b ∈ fp, ∃ o, h.get? b = some o ∧ ∀ v, o.data ≠ .cell v
  keep : ∀ i h h', tn i h → (∀ b ∈ fp, ∀ o, h.get? b = some o → h'.get? b = some o) → tn i h'
  item : ∀ (X : Cx), X.prog = P → X.w = w → X.K = K → X.calm = true → ∀ (i : Nat) (pins : List (Addr × Obj)) (s : Shared) (σ : St) (H : Hp) (E : Value → Shared → Prop), Inv X pins σ H s → (∀ b ∈ fp, FpOk X pins H b) → tn i s.heap → J.go i H →
    wpAny (model P w) X.A (pyNext (.ref it)) (fun r s1 => ∃ u, r = some u ∧
      wpAny (model P w) X.A (letOwnedTupleGo tg (.ref it) u) (fun _ s2 => ∃ x H', Inv X pins σ H' s2 ∧ RelV x u ∧ J.yld i H x H' ∧ tn (i + 1) s2.heap ∧ ∀ b ∈ fp, H' b = none) E s1) E s
  done : ∀ (X : Cx), X.prog = P → X.w = w → X.K = K → X.calm = true → ∀ (i : Nat) (pins : List (Addr × Obj)) (s : Shared) (σ : St) (H : Hp) (E : Value → Shared → Prop), Inv X pins σ H s → (∀ b ∈ fp, FpOk X pins H b) → tn i s.heap → J.stop i H →
    wpAny (model P w) X.A (pyNext (.ref it)) (fun r s1 => r = none ∧ Inv X pins σ H s1) E s
  self : ∀ (A : Around) (i : Nat) (s : Shared) (Q : Value → Shared → Prop) (E : Value → Shared → Prop), tn i s.heap → Q (.ref it) s → wpAny (model P w) A (pyIter (.ref it)) Q E s
abbrev TI := St → Hp → (It → Hp → Prop) → Prop
def PIE (X : Cx) (pins : List (Addr × Obj)) (σ : St) (tg : Expr) (R : It → Hp → Prop) (itv : Value) (s2 : Shared) : Prop :=
  ∃ (it : Addr) (fp : List Addr) (tn : Nat → Heap → Prop) (J : It) (H' : Hp), itv = .ref it ∧ Inv X pins σ H' s2 ∧ Turn X.prog X.w X.K tg J fp it tn ∧ tn 0 s2.heap ∧ (∀ b ∈ fp, FpOk X pins H' b) ∧ R J H'
def PI (X : Cx) (tg iter : Expr) (wi : TI) : Prop :=
  ∀ (pins : List (Addr × Obj)) (s : Shared) (σ : St) (H : Hp) (R : It → Hp → Prop), Inv X pins σ H s → wi σ H R →
    wpAny (model X.prog X.w) X.A (eval iter X.env) (fun v s1 => wpAny (model X.prog X.w) X.A (pyIter v) (PIE X pins σ tg R) X.xe s1) X.xe s

theorem go_of {M : Model} {A : Around} {E : Value → Shared → Prop} {s : Shared} {tg : Expr} {it : Addr} {u : Value} {o : Obj} {n : String} {vs : Array Value} {Q : Unit → Shared → Prop} (ho : s.heap.get? it = some o) (hc : o.cls = .type n) (hd : o.data = .fields vs)
    (hn : ["enumerate", "zip", "dict_itemiterator", "dict_reverseitemiterator", "odict_iterator", "itertools.zip_longest", "itertools.pairwise"].contains n = false) (hQ : Q () s) : wpAny M A (letOwnedTupleGo tg (.ref it) u) Q E s := by
  unfold letOwnedTupleGo
  cases tg <;> first
    | exact wpAny_pure hQ
    | (cases u <;> first
        | exact wpAny_pure hQ
        | (refine wpAny_bind (wpAny_load ho ?_)
           rw [hc, hd]
           show wpAny M A (if (["enumerate", "zip", "dict_itemiterator", "dict_reverseitemiterator", "odict_iterator", "itertools.zip_longest", "itertools.pairwise"].contains n && vs[0]? == some (rawInt _)) = true then _ else _) Q E s
           rw [if_neg (by intro h; rw [hn, Bool.false_and] at h; cases h)]
           exact wpAny_pure hQ))

def Itl (K : PySem.W.Frag) (a : Addr) : It :=
  ⟨fun i H => ∃ xs x, SqL K H a xs ∧ xs[i]? = some x, fun i H x H' => H' = H ∧ ∀ xs, SqL K H a xs → xs[i]? = some x, fun i H => ∃ xs, SqL K H a xs ∧ xs.length ≤ i⟩
def Itt (K : PySem.W.Frag) (a : Addr) : It :=
  ⟨fun i H => ∃ xs x, SqT K H a xs ∧ xs[i]? = some x, fun i H x H' => H' = H ∧ ∀ xs, SqT K H a xs → xs[i]? = some x, fun i H => ∃ xs, SqT K H a xs ∧ xs.length ≤ i⟩
def Itr (lo : Int) (n : Nat) : It := ⟨fun i _ => i < n, fun i H x H' => H' = H ∧ x = .int (lo + i), fun i _ => n ≤ i⟩
theorem turn_list {P : Program} {w : World} {K : PySem.W.Frag} {tg : Expr} (a it : Addr) : Turn P w K tg (Itl K a) [it] it (fun i h => h.IsListIter it a i) where
  mem := by simp
  obj := fun i h st b hb => by
    have e : b = it := by simpa using hb
    subst e
    obtain ⟨o, e, c, d⟩ := st
    exact ⟨o, e, fun v z => by rw [d] at z; cases z⟩
  keep := fun i h h' st k => st.at fun o e => k it (by simp) o e
  item := by
    intro X hP hw hK hc i pins s σ H E I hf st hg
    subst hP hw hK
    obtain ⟨xs, x, hq, hx⟩ := hg
    obtain ⟨its, rv, p, hz⟩ := I.list hq
    obtain ⟨u, hu, ru⟩ := rv.get hx
    obtain ⟨f0, f1, f2, f3, f4, f5⟩ := hf it (by simp)
    refine wpAny_pyNext_list_item st p.isList (x := u) (by simpa using hu) fun h' st' sb => ?_
    have I1 : Inv X pins σ H { s with heap := h' } := I.turned (t' := s.toks) (fun b o hb e => (sb.2 b hb).trans e) f0 f1 f3 f4 f5
    obtain ⟨o, e, c, d⟩ := id st'
    exact ⟨u, rfl, go_of (s := { s with heap := h' }) e c d (by decide) ⟨x, H, I1, ru, ⟨rfl, fun ys hy => by rw [I.list_inj hy hq]; exact hx⟩, st', fun b hb => (hf b hb).1⟩⟩
  done := by
    intro X hP hw hK hc i pins s σ H E I hf st hg
    subst hP hw hK
    obtain ⟨xs, hq, hx⟩ := hg
    obtain ⟨its, rv, p, hz⟩ := I.list hq
    obtain ⟨f0, f1, f2, f3, f4, f5⟩ := hf it (by simp)
    have hl := rv.length
    exact wpAny_pyNext_list_end (I.ok.hd hc) st p.isList (by simp; omega) fun h' eb => ⟨rfl, I.turned (t' := s.toks) (fun b o hb e => eb b o hb e) f0 f1 f3 f4 f5⟩
  self := fun _ _ _ _ _ st h => wpAny_pyIter_listiter st h
theorem turn_tuple {P : Program} {w : World} {K : PySem.W.Frag} {tg : Expr} (a it : Addr) : Turn P w K tg (Itt K a) [it] it (fun i h => h.IsTupleIter it a i) where
  mem := by simp
  obj := fun i h st b hb => by
    have e : b = it := by simpa using hb
    subst e
    obtain ⟨o, e, c, d⟩ := st
    exact ⟨o, e, fun v z => by rw [d] at z; cases z⟩
  keep := fun i h h' st k => st.at fun o e => k it (by simp) o e
  item := by
    intro X hP hw hK hc i pins s σ H E I hf st hg
    subst hP hw hK
    obtain ⟨xs, x, hq, hx⟩ := hg
    obtain ⟨its, rv, p, hz⟩ := I.tuple hq
    obtain ⟨u, hu, ru⟩ := rv.get hx
    obtain ⟨f0, f1, f2, f3, f4, f5⟩ := hf it (by simp)
    refine wpAny_pyNext_tuple_item st (show s.heap.IsTuple a its.toArray from p) (x := u) (by simpa using hu) fun h' st' sb => ?_
    have I1 : Inv X pins σ H { s with heap := h' } := I.turned (t' := s.toks) (fun b o hb e => (sb.2 b hb).trans e) f0 f1 f3 f4 f5
    obtain ⟨o, e, c, d⟩ := id st'
    exact ⟨u, rfl, go_of (s := { s with heap := h' }) e c d (by decide) ⟨x, H, I1, ru, ⟨rfl, fun ys hy => by rw [I.tuple_inj hy hq]; exact hx⟩, st', fun b hb => (hf b hb).1⟩⟩
  done := by
    intro X hP hw hK hc i pins s σ H E I hf st hg
    subst hP hw hK
    obtain ⟨xs, hq, hx⟩ := hg
    obtain ⟨its, rv, p, hz⟩ := I.tuple hq
    obtain ⟨f0, f1, f2, f3, f4, f5⟩ := hf it (by simp)
    have hl := rv.length
    exact wpAny_pyNext_tuple_end (I.ok.hd hc) st (show s.heap.IsTuple a its.toArray from p) (by simp; omega) fun h' eb => ⟨rfl, I.turned (t' := s.toks) (fun b o hb e => eb b o hb e) f0 f1 f3 f4 f5⟩
  self := fun _ _ _ _ _ st h => wpAny_pyIter_tupleiter st h
theorem turn_range {P : Program} {w : World} {K : PySem.W.Frag} {tg : Expr} (it : Addr) (lo : Int) (n : Nat) : Turn P w K tg (Itr lo n) [it] it (fun i h => IsRangeIter h it (lo + (i : Nat) * 1) ((n : Int) - (i : Nat)) 1) where
  mem := by simp
  obj := fun i h st b hb => by
    have e : b = it := by simpa using hb
    subst e
    exact ⟨_, st, fun v z => by
      have z' : Data.fields _ = Data.cell v := z
      cases z'⟩
  keep := fun i h h' st k => k it (by simp) _ st
  item := by
    intro X hP hw hK hc i pins s σ H E I hf st hg
    subst hP hw hK
    obtain ⟨f0, f1, f2, f3, f4, f5⟩ := hf it (by simp)
    have W := Walks.range (prog := X.prog) (w := X.w) (I.ok.hd hc) it lo 1 n
    refine W.item i s _ _ hg st fun v h' tk hv st' kk => ?_
    obtain ⟨t, rfl⟩ := hv
    have I1 : Inv X pins σ H { s with heap := h', toks := tk } := I.turned (fun b o hb e => kk b o (by simpa using hb) e) f0 f1 f3 f4 f5
    refine ⟨_, rfl, go_of (s := { s with heap := h', toks := tk }) (n := "range_iterator") st' rfl rfl (by decide) ⟨.int (lo + i), H, I1, ⟨t, ?_⟩, ⟨rfl, rfl⟩, st', fun b hb => (hf b hb).1⟩⟩
    rw [Int.mul_one]
  done := by
    intro X hP hw hK hc i pins s σ H E I hf st hg
    subst hP hw hK
    obtain ⟨f0, f1, f2, f3, f4, f5⟩ := hf it (by simp)
    exact wpAny_pyNext_range_end (I.ok.hd hc) st (by have : n ≤ i := hg; omega) fun h' eb => ⟨rfl, I.turned (t' := s.toks) (fun b o hb e => eb b o hb e) f0 f1 f3 f4 f5⟩
  self := fun _ _ _ _ _ st h => wpAny_pyIter_rangeiter st h
end L2

namespace L2
open PySem PySem.Spec PyProof.Rows
section
variable {X : Cx} {tg : Expr}
def iList (K : PySem.W.Frag) (tl : TE) : TI := fun σ H R => tl σ H fun x H1 => ∃ a, x = .ref a ∧ (∃ xs, SqL K H1 a xs) ∧ R (Itl K a) H1
def iTup (K : PySem.W.Frag) (tl : TE) : TI := fun σ H R => tl σ H fun x H1 => ∃ a, x = .ref a ∧ (∃ xs, SqT K H1 a xs) ∧ R (Itt K a) H1
theorem pi_list {l : Expr} {tl : TE} (hl : PE X l tl) : PI X tg l (iList X.K tl) := by
  intro pins s σ H R I h
  refine thn (hl pins s σ H _ I h) fun v s1 ⟨x, H1, I1, r1, q1⟩ => ?_
  obtain ⟨a, e, ⟨xs, hq⟩, q⟩ := q1
  subst e
  cases r1
  obtain ⟨its, rv, p, hz⟩ := I1.list hq
  refine wpAny_pyIter_list p.isList ?_
  refine ⟨s1.heap.objs.size, [s1.heap.objs.size], _, _, H1, rfl, I1.kept (t' := s1.toks) fun b o e => Heap.get?_push_of_some _ e, turn_list a _, ⟨_, Heap.get?_push_size _ rfl, rfl, rfl⟩, fun b hb => ?_, q⟩
  have e : b = s1.heap.objs.size := by simpa using hb
  subst e
  exact I1.fpOk (Nat.le_refl _) (I1.hok.fresh (Nat.le_refl _))
theorem pi_tup {l : Expr} {tl : TE} (hl : PE X l tl) : PI X tg l (iTup X.K tl) := by
  intro pins s σ H R I h
  refine thn (hl pins s σ H _ I h) fun v s1 ⟨x, H1, I1, r1, q1⟩ => ?_
  obtain ⟨a, e, ⟨xs, hq⟩, q⟩ := q1
  subst e
  cases r1
  obtain ⟨its, rv, p, hz⟩ := I1.tuple hq
  refine wpAny_pyIter_tuple (show s1.heap.IsTuple a its.toArray from p) ?_
  refine ⟨s1.heap.objs.size, [s1.heap.objs.size], _, _, H1, rfl, I1.kept (t' := s1.toks) fun b o e => Heap.get?_push_of_some _ e, turn_tuple a _, ⟨_, Heap.get?_push_size _ rfl, rfl, rfl⟩, fun b hb => ?_, q⟩
  have e : b = s1.heap.objs.size := by simpa using hb
  subst e
  exact I1.fpOk (Nat.le_refl _) (I1.hok.fresh (Nat.le_refl _))
theorem range_it {pins : List (Addr × Obj)} {σ : St} {H : Hp} {s : Shared} {R : It → Hp → Prop} {E : Value → Shared → Prop} {lo hi : Int} {t u v : Tok} {tk : Nat} (I : Inv X pins σ H s) (h1 : -(2 ^ 62) ≤ lo) (h2 : lo < 2 ^ 62) (h3 : -(2 ^ 62) ≤ hi) (h4 : hi < 2 ^ 62)
    (q : R (Itr lo (hi - lo).toNat) H) : wpAny (model X.prog X.w) X.A (pyIter (.ref s.heap.objs.size)) (PIE X pins σ tg R) E { s with heap := s.heap.push { cls := .type "range", data := .fields #[.int lo t, .int hi u, .int 1 v] }, toks := tk } := by
  refine wpAny_pyIter_range (IsRange.new ..) (small_one h1 h2 h3 h4) ?_
  have I1 : Inv X pins σ H { s with heap := s.heap.push { cls := .type "range", data := .fields #[.int lo t, .int hi u, .int 1 v] }, toks := tk } := I.kept fun b o e => Heap.get?_push_of_some _ e
  refine ⟨(s.heap.push { cls := .type "range", data := .fields #[.int lo t, .int hi u, .int 1 v] }).objs.size, [(s.heap.push { cls := .type "range", data := .fields #[.int lo t, .int hi u, .int 1 v] }).objs.size], _, _, H, rfl,
    I1.kept (t' := tk) fun b o e => Heap.get?_push_of_some _ e, turn_range _ lo (hi - lo).toNat, ?_, fun b hb => ?_, q⟩
  · have e1 : lo + ((0 : Nat) : Int) * 1 = lo := by simp
    have e2 : (((hi - lo).toNat : Nat) : Int) - ((0 : Nat) : Int) = Builtin.Range.rangeSize lo hi 1 := by rw [rangeSize_one]; split <;> omega
    show IsRangeIter _ _ (lo + ((0 : Nat) : Int) * 1) ((((hi - lo).toNat : Nat) : Int) - ((0 : Nat) : Int)) 1
    rw [e1, e2]
    exact Heap.get?_push_size _ rfl
  · have e : b = (s.heap.push { cls := .type "range", data := .fields #[.int lo t, .int hi u, .int 1 v] }).objs.size := by simpa using hb
    subst e
    exact I1.fpOk (Nat.le_refl _) (I1.hok.fresh (Nat.le_refl _))
def iRng1 (ta : TA) : TI := fun σ H R => ta σ H fun vs H1 => ∃ j : Int, vs = [.int j] ∧ -(2 ^ 62) ≤ j ∧ j < 2 ^ 62 ∧ R (Itr 0 j.toNat) H1
theorem pi_range1 {a : Expr} {ta : TA} {p pos : Pos} (hg : Gl X "range") (hm : X.mg "range" = none) (ha : PA X [a] ta) (hs : starEach [a] X.env = [(false, eval a X.env)] := by rfl) : PI X tg (.Call (.Name "range" p) [a] [] pos) (iRng1 ta) := by
  intro pins s σ H R I h
  refine Call_ (ld_blt I hg hm boot_range (PyProof.Rows.callWith_type1 (thn (ha pos pins s σ H _ I h) fun us s1 ⟨vs, H1, I1, r1, q1⟩ => ?_) hs rfl))
  obtain ⟨j, e, q1, q2, q⟩ := q1
  subst e
  cases r1 with
  | cons r rr =>
    cases rr
    obtain ⟨t, rfl⟩ := r
    exact call_range_1 (range_it I1 (by omega) (by omega) q1 q2 (by simpa using q))
/-! ### for -/
def tFor (wi : TI) (g : TG) (tb : TS) : TS := fun D σ H => wi σ H fun J H1 => ∃ W : Nat → Nat → St → Hp → Prop, (∃ m, W 0 m σ H1) ∧ ∀ i m σ H, W i m σ H →
  (J.stop i H ∧ D.nx σ H) ∨ (J.go i H ∧ ∃ N : St → Hp → Prop, (∀ σ' H', N σ' H' → ∃ m', m' < m ∧ W (i + 1) m' σ' H') ∧ ∀ x H', J.yld i H x H' → g x σ H' fun σ2 H2 => tb { D with nx := N, ct := N, bk := D.nx } σ2 H2)
def pinsAt (fp : List Addr) (h : Heap) : List (Addr × Obj) := fp.filterMap fun b => (h.get? b).map fun o => (b, o)
theorem mem_pinsAt {fp : List Addr} {h : Heap} {b : Addr} {o : Obj} (hb : b ∈ fp) (e : h.get? b = some o) : (b, o) ∈ pinsAt fp h := List.mem_filterMap.mpr ⟨b, hb, by rw [e]; rfl⟩
theorem of_pinsAt {fp : List Addr} {h : Heap} {p : Addr × Obj} (hp : p ∈ pinsAt fp h) : p.1 ∈ fp ∧ h.get? p.1 = some p.2 := by
  obtain ⟨b, hb, e⟩ := List.mem_filterMap.mp hp
  cases q : h.get? b with
  | none => rw [q] at e; cases e
  | some o =>
    rw [q] at e
    have e' : (b, o) = p := Option.some.inj e
    subst e'
    exact ⟨hb, q⟩
theorem Inv.pinned {pins : List (Addr × Obj)} {σ : St} {H : Hp} {s : Shared} {fp : List Addr} (I : Inv X pins σ H s) (hf : ∀ b ∈ fp, FpOk X pins H b) (ho : ∀ b ∈ fp, ∃ o, s.heap.get? b = some o ∧ ∀ v, o.data ≠ .cell v) : Inv X (pins ++ pinsAt fp s.heap) σ H s :=
  I.pins_of fun p hp => (List.mem_append.mp hp).elim (fun z => I.pin p (List.mem_append_right _ z)) fun z => by
    obtain ⟨hb, e⟩ := of_pinsAt z
    obtain ⟨f0, f1, f2, _⟩ := hf p.1 hb
    obtain ⟨o, e', d⟩ := ho p.1 hb
    rw [e] at e'; cases e'
    exact ⟨e, f0, f1, f2, d⟩
theorem Inv.unpinned {pins pl : List (Addr × Obj)} {σ : St} {H : Hp} {s : Shared} (I : Inv X (pins ++ pl) σ H s) : Inv X pins σ H s := I.pins_of fun p hp => I.pin p (List.mem_append_right _ (List.mem_append_left _ hp))
theorem ps_for {iter : Expr} {body : List Stmt} {wi : TI} {g : TG} {tb : TS} {pos : Pos} (hp : PassesOwn (model X.prog X.w) X.A X.env X.xe) (hc : X.calm = true) (hi : PI X tg iter wi) (hg : PG X tg g) (hb : PSs X body tb)
    (hs : ∀ x, foldedSetIterable iter X.env x = pure x := by intro _; rfl) : PS X (.For tg iter body [] pos) (tFor wi g tb) := by
  intro pins s σ H D I h
  refine wpAny_For (thn (hi pins s σ H _ I h) fun v s1 h1 => thn h1 fun itv s2 h2 => ?_) hs
  obtain ⟨it, fp, tn, J, H2, e, I2, T, st2, f2, W, ⟨m0, w0⟩, turn⟩ := h2
  subst e
  -- what stays true of the iterator's objects through the loop
  have stat : ∀ {H' : Hp}, (∀ b ∈ fp, H' b = none) → ∀ b ∈ fp, FpOk X pins H' b := fun hn b hb => ⟨hn b hb, (f2 b hb).2⟩
  refine codeAny_forLoop_any (fun n s' => ∃ i σ' H', Inv X pins σ' H' s' ∧ tn i s'.heap ∧ (∀ b ∈ fp, H' b = none) ∧ W i n σ' H') ?_ m0 ⟨0, σ, H2, I2, st2, fun b hb => (f2 b hb).1, w0⟩
  rintro n s3 ⟨i, σ3, H3, I3, st3, fr3, w3⟩
  rcases turn i n σ3 H3 w3 with ⟨stop, qn⟩ | ⟨go, N, hN, step⟩
  · refine wpAny_passesOwn hp (thn (T.done X rfl rfl rfl hc i pins s3 σ3 H3 X.xe I3 (stat fr3) st3 stop) fun r s4 ⟨hr, I4⟩ => ?_)
    subst hr
    exact wpAny_execs_nil ⟨σ3, H3, I4, qn⟩
  · refine wpAny_passesOwn hp (thn (T.item X rfl rfl rfl hc i pins s3 σ3 H3 X.xe I3 (stat fr3) st3 go) fun r s4 ⟨u, hr, h4⟩ => ?_)
    subst hr
    refine wpAny_passesOwn hp (thn h4 fun _ s5 ⟨x, H5, I5, r5, y5, st5, fr5⟩ => ?_)
    have I5' := I5.pinned (stat fr5) (T.obj _ _ st5)
    refine wpAny_passesOwn hp (thn (hg _ s5 σ3 H5 x u _ I5' r5 (step x H5 y5)) fun _ s6 ⟨σ6, H6, I6, q6⟩ => ?_)
    refine wpAny_passesOwn hp (thn (hb _ s6 σ6 H6 _ I6 q6) fun f s7 q7 => ?_)
    have again : ∀ {σ7 : St} {H7 : Hp}, Inv X (pins ++ pinsAt fp s5.heap) σ7 H7 s7 → N σ7 H7 → ∃ m, m < n ∧ ∃ i σ' H', Inv X pins σ' H' s7 ∧ tn i s7.heap ∧ (∀ b ∈ fp, H' b = none) ∧ W i m σ' H' := fun {σ7 H7} I7 n7 => by
      obtain ⟨m', hm, w7⟩ := hN σ7 H7 n7
      refine ⟨m', hm, i + 1, σ7, H7, I7.unpinned, T.keep _ _ _ st5 fun b hb o e => (I7.pin (b, o) (List.mem_append_right _ (List.mem_append_right _ (mem_pinsAt hb e)))).1, fun b hb => ?_, w7⟩
      obtain ⟨o, e, d⟩ := T.obj _ _ st5 b hb
      exact (I7.pin (b, o) (List.mem_append_right _ (List.mem_append_right _ (mem_pinsAt hb e)))).2.1
    cases f with
    | next => obtain ⟨σ7, H7, I7, n7⟩ := q7; exact again I7 n7
    | cont => obtain ⟨σ7, H7, I7, n7⟩ := q7; exact again I7 n7
    | brk => obtain ⟨σ7, H7, I7, q7⟩ := q7; exact ⟨σ7, H7, I7.unpinned, q7⟩
    | ret v => obtain ⟨x7, σ7, H7, I7, r7, q7⟩ := q7; exact ⟨x7, σ7, H7, I7.unpinned, r7, q7⟩
end

/-! ### the forms one uses -/
theorem for_list {K : PySem.W.Frag} {a : Addr} {xs : List V} {g : TG} {tb : TS} {D : Ends} {σ : St} {H : Hp} (Pv : Nat → St → Hp → Prop) (h0 : Pv 0 σ H) (hl : ∀ i σ H, i ≤ xs.length → Pv i σ H → SqL K H a xs)
    (hs : ∀ i x σ H, xs[i]? = some x → Pv i σ H → g x σ H fun σ2 H2 => tb { D with nx := Pv (i + 1), ct := Pv (i + 1), bk := D.nx } σ2 H2) (hd : ∀ σ H, Pv xs.length σ H → D.nx σ H) :
    ∃ W : Nat → Nat → St → Hp → Prop, (∃ m, W 0 m σ H) ∧ ∀ i m σ H, W i m σ H →
      ((Itl K a).stop i H ∧ D.nx σ H) ∨ ((Itl K a).go i H ∧ ∃ N : St → Hp → Prop, (∀ σ' H', N σ' H' → ∃ m', m' < m ∧ W (i + 1) m' σ' H') ∧ ∀ x H', (Itl K a).yld i H x H' → g x σ H' fun σ2 H2 => tb { D with nx := N, ct := N, bk := D.nx } σ2 H2) := by
  refine ⟨fun i m σ H => m = xs.length - i ∧ i ≤ xs.length ∧ Pv i σ H, ⟨xs.length, by simp, Nat.zero_le _, h0⟩, ?_⟩
  rintro i m σ H ⟨rfl, hi, p⟩
  have q := hl i σ H hi p
  by_cases hlt : i < xs.length
  · refine .inr ⟨⟨xs, xs[i], q, by simp [hlt]⟩, Pv (i + 1), fun σ' H' p' => ⟨xs.length - (i + 1), by omega, rfl, hlt, p'⟩, fun x H' y => ?_⟩
    obtain ⟨e, y⟩ := y
    subst e
    exact hs i x σ _ (y xs q) p
  · have e : i = xs.length := by omega
    subst e
    exact .inl ⟨⟨xs, q, Nat.le_refl _⟩, hd σ H p⟩
theorem for_range {lo : Int} {n : Nat} {g : TG} {tb : TS} {D : Ends} {σ : St} {H : Hp} (Pv : Nat → St → Hp → Prop) (h0 : Pv 0 σ H)
    (hs : ∀ i σ H, i < n → Pv i σ H → g (.int (lo + i)) σ H fun σ2 H2 => tb { D with nx := Pv (i + 1), ct := Pv (i + 1), bk := D.nx } σ2 H2) (hd : ∀ σ H, Pv n σ H → D.nx σ H) :
    ∃ W : Nat → Nat → St → Hp → Prop, (∃ m, W 0 m σ H) ∧ ∀ i m σ H, W i m σ H →
      ((Itr lo n).stop i H ∧ D.nx σ H) ∨ ((Itr lo n).go i H ∧ ∃ N : St → Hp → Prop, (∀ σ' H', N σ' H' → ∃ m', m' < m ∧ W (i + 1) m' σ' H') ∧ ∀ x H', (Itr lo n).yld i H x H' → g x σ H' fun σ2 H2 => tb { D with nx := N, ct := N, bk := D.nx } σ2 H2) := by
  refine ⟨fun i m σ H => m = n - i ∧ i ≤ n ∧ Pv i σ H, ⟨n, by simp, Nat.zero_le _, h0⟩, ?_⟩
  rintro i m σ H ⟨rfl, hi, p⟩
  by_cases hlt : i < n
  · refine .inr ⟨hlt, Pv (i + 1), fun σ' H' p' => ⟨n - (i + 1), by omega, rfl, hlt, p'⟩, fun x H' y => ?_⟩
    obtain ⟨e, y⟩ := y
    subst e y
    exact hs i σ _ hlt p
  · have e : i = n := by omega
    subst e
    exact .inl ⟨Nat.le_refl _, hd σ H p⟩
end L2

namespace L2
open PySem PySem.Spec PyProof.Rows

abbrev R2 := V → V → Hp → VK → Prop
def OpR (X : Cx) (f : Value → Value → Sem Value) (r : R2) : Prop :=
  ∀ (pins : List (Addr × Obj)) (s : Shared) (σ : St) (H : Hp) (x y : V) (v u : Value) (Q : VK), Inv X pins σ H s → RelV x v → RelV y u → r x y H Q →
    wpAny (model X.prog X.w) X.A (f v u) (EP X pins σ Q) X.xe s
def UnR (X : Cx) (f : Value → Sem Value) (r : V → Hp → VK → Prop) : Prop :=
  ∀ (pins : List (Addr × Obj)) (s : Shared) (σ : St) (H : Hp) (x : V) (v : Value) (Q : VK), Inv X pins σ H s → RelV x v → r x H Q →
    wpAny (model X.prog X.w) X.A (f v) (EP X pins σ Q) X.xe s
def CallR (X : Cx) (f : Value) (r : List V → Hp → VK → Prop) : Prop :=
  ∀ (pins : List (Addr × Obj)) (s : Shared) (σ : St) (H : Hp) (xs : List V) (us : List Value) (Q : VK), Inv X pins σ H s → Vals xs us → r xs H Q →
    wpAny (model X.prog X.w) X.A (call f us) (EP X pins σ Q) X.xe s
def TruR (X : Cx) (r : V → Hp → (Bool → Hp → Prop) → Prop) : Prop :=
  ∀ (pins : List (Addr × Obj)) (s : Shared) (σ : St) (H : Hp) (x : V) (v : Value) (Q : Bool → Hp → Prop), Inv X pins σ H s → RelV x v → r x H Q →
    wpAny (model X.prog X.w) X.A (truthy v) (TP X pins σ Q) X.xe s

def tOp (r : R2) (ta tb : TE) : TE := fun σ H Q => ta σ H fun x H1 => tb σ H1 fun y H2 => r x y H2 Q
def tUn (r : V → Hp → VK → Prop) (ta : TE) : TE := fun σ H Q => ta σ H fun x H1 => r x H1 Q
def rI (C : Int → Int → Prop) (g : Int → Int → V) : R2 := fun x y H Q => ∃ i j, x = .int i ∧ y = .int j ∧ C i j ∧ Q (g i j) H
def rI0 (g : Int → Int → V) : R2 := fun x y H Q => ∃ i j, x = .int i ∧ y = .int j ∧ Q (g i j) H
def rU (g : Int → V) : V → Hp → VK → Prop := fun x H Q => ∃ i, x = .int i ∧ Q (g i) H

section
variable {X : Cx} {a b c : Expr} {ta tb tc : TE} {pos : Pos}

theorem binT (ha : PE X a ta) (hb : PE X b tb) {pins : List (Addr × Obj)} {s : Shared} {σ : St} {H : Hp} {R : V → V → Hp → Prop} (I : Inv X pins σ H s)
    (h : ta σ H fun x H1 => tb σ H1 fun y H2 => R x y H2) {Q : Value → Shared → Prop} {f : Value → Value → Sem Value}
    (hf : ∀ v u s2 x y H2, Inv X pins σ H2 s2 → RelV x v → RelV y u → R x y H2 → wpAny (model X.prog X.w) X.A (f v u) Q X.xe s2) :
    wpAny (model X.prog X.w) X.A (eval a X.env) (fun v s₁ => wpAny (model X.prog X.w) X.A (eval b X.env) (fun u s₂ => wpAny (model X.prog X.w) X.A (f v u) Q X.xe s₂) X.xe s₁) X.xe s := by
  refine thn (ha pins s σ H _ I h) fun v s1 ⟨x, H1, I1, r1, q1⟩ => ?_
  refine thn (hb pins s1 σ H1 _ I1 q1) fun u s2 ⟨y, H2, I2, r2, q2⟩ => ?_
  exact hf v u s2 x y H2 I2 r1 r2 q2

theorem pe_op {op : Operator} {r : R2} (ho : OpR X (binaryOp op) r) (ha : PE X a ta) (hb : PE X b tb) : PE X (.BinOp a op b pos) (tOp r ta tb) := by
  intro pins s σ H Q I h
  exact wpAny_BinOp (binT ha hb I h fun v u s2 x y H2 I2 rx ry q => ho pins s2 σ H2 x y v u Q I2 rx ry q)
theorem pe_un {op : UnaryOp} {r : V → Hp → VK → Prop} (ho : UnR X (unaryOp op) r) (ha : PE X a ta) : PE X (.UnaryOp op a pos) (tUn r ta) := by
  intro pins s σ H Q I h
  exact UnaryOp_ (thn (ha pins s σ H _ I h) fun v s1 ⟨x, H1, I1, r1, q1⟩ => ho pins s1 σ H1 x v Q I1 r1 q1)
/-! ### ints -/
theorem opI {f : Value → Value → Sem Value} {C : Int → Int → Prop} {g : Int → Int → Int}
    (rule : ∀ (i j : Int) (t u : Tok) (s : Shared) (Q : Value → Shared → Prop) (E : Value → Shared → Prop), C i j → Q (.int (g i j) s.toks) { s with toks := s.toks + 1 } → wpAny (model X.prog X.w) X.A (f (.int i t) (.int j u)) Q E s) :
    OpR X f (rI C fun i j => .int (g i j)) := by
  intro pins s σ H x y v u Q I rx ry h
  obtain ⟨i, j, rfl, rfl, hc, q⟩ := h
  obtain ⟨t, rfl⟩ := rx
  obtain ⟨t', rfl⟩ := ry
  exact rule i j t t' s _ _ hc ⟨.int (g i j), H, I.tok _, ⟨_, rfl⟩, q⟩
theorem opI0 {f : Value → Value → Sem Value} {g : Int → Int → Int}
    (rule : ∀ (i j : Int) (t u : Tok) (s : Shared) (Q : Value → Shared → Prop) (E : Value → Shared → Prop), Q (.int (g i j) s.toks) { s with toks := s.toks + 1 } → wpAny (model X.prog X.w) X.A (f (.int i t) (.int j u)) Q E s) :
    OpR X f (rI0 fun i j => .int (g i j)) := by
  intro pins s σ H x y v u Q I rx ry h
  obtain ⟨i, j, rfl, rfl, q⟩ := h
  obtain ⟨t, rfl⟩ := rx
  obtain ⟨t', rfl⟩ := ry
  exact rule i j t t' s _ _ ⟨.int (g i j), H, I.tok _, ⟨_, rfl⟩, q⟩
theorem opB0 {f : Value → Value → Sem Value} {g : Int → Int → Bool}
    (rule : ∀ (i j : Int) (t u : Tok) (s : Shared) (Q : Value → Shared → Prop) (E : Value → Shared → Prop), Q (.bool (g i j)) s → wpAny (model X.prog X.w) X.A (f (.int i t) (.int j u)) Q E s) :
    OpR X f (rI0 fun i j => .bl (g i j)) := by
  intro pins s σ H x y v u Q I rx ry h
  obtain ⟨i, j, rfl, rfl, q⟩ := h
  obtain ⟨t, rfl⟩ := rx
  obtain ⟨t', rfl⟩ := ry
  exact rule i j t t' s _ _ ⟨.bl (g i j), H, I, rfl, q⟩

def CDiv (i j : Int) : Prop := 0 < j ∧ j < 1073741824
def CPow (i j : Int) : Prop := 0 ≤ j ∧ j ≤ 1000000 ∧ i.natAbs < 2 ^ 64
def CMul (i j : Int) : Prop := (-(2 ^ 64) < i ∧ i < 2 ^ 64) ∨ (-(2 ^ 64) < j ∧ j < 2 ^ 64)
theorem CMul.ok {i j : Int} (h : CMul i j) : IntMulOk i j := by
  rcases h with ⟨h1, h2⟩ | ⟨h1, h2⟩
  · exact .of_left (intBits_le_64 h1 h2)
  · exact .of_right (intBits_le_64 h1 h2)
theorem two_pow_nn (k : Nat) : (0 : Int) ≤ 2 ^ k := by
  rw [two_pow_cast]
  exact Int.natCast_nonneg _

theorem op_add : OpR X (binaryOp .Add) (rI0 fun i j => .int (i + j)) := opI0 fun _ _ _ _ _ _ _ q => add_int q
theorem op_sub : OpR X (binaryOp .Sub) (rI0 fun i j => .int (i - j)) := opI0 fun _ _ _ _ _ _ _ q => sub_int q
theorem op_mul : OpR X (binaryOp .Mult) (rI CMul fun i j => .int (i * j)) := opI fun _ _ _ _ _ _ _ hc q => mul_int q hc.ok
theorem op_fdiv : OpR X (binaryOp .FloorDiv) (rI CDiv fun i j => .int (i / j)) := opI fun i j _ _ _ _ _ hc q => by
  have h1 : (0 : Int) < j := hc.1
  have h2 : j < 1073741824 := hc.2
  exact floordiv_int (by omega) (by rw [Int.fdiv_eq_ediv_of_nonneg i (by omega)]; exact q) (.inl (PyProof.noPylong_small (by omega)))
theorem op_mod : OpR X (binaryOp .Mod) (rI (fun _ j => 0 < j) fun i j => .int (i % j)) := opI fun i j _ _ _ _ _ hc q => by
  have h1 : (0 : Int) < j := hc
  exact mod_int' (by omega) (by rw [Int.fmod_eq_emod_of_nonneg i (by omega)]; exact q)
theorem op_pow : OpR X (binaryOp .Pow) (rI CPow fun i j => .int (i ^ j.toNat)) := opI fun _ _ _ _ _ _ _ hc q => pow_int_small hc.1 hc.2.1 hc.2.2 q
theorem op_shr : OpR X (binaryOp .RShift) (rI (fun _ j => 0 ≤ j) fun i j => .int (i / 2 ^ j.toNat)) := opI fun i j _ _ _ _ _ hc q =>
  rshift_int hc (by rw [Int.fdiv_eq_ediv_of_nonneg i (two_pow_nn _)]; exact q)
theorem op_and : OpR X (binaryOp .BitAnd) (rI0 fun i j => .int (Builtin.bitAnd i j)) := opI0 fun _ _ _ _ _ _ _ q => and_int q
theorem op_or : OpR X (binaryOp .BitOr) (rI0 fun i j => .int (Builtin.bitOr i j)) := opI0 fun _ _ _ _ _ _ _ q => or_int q
theorem op_xor : OpR X (binaryOp .BitXor) (rI0 fun i j => .int (Builtin.bitXor i j)) := opI0 fun _ _ _ _ _ _ _ q => xor_int q

theorem unI {f : Value → Sem Value} {g : Int → Int}
    (rule : ∀ (i : Int) (t : Tok) (s : Shared) (Q : Value → Shared → Prop) (E : Value → Shared → Prop), Q (.int (g i) s.toks) { s with toks := s.toks + 1 } → wpAny (model X.prog X.w) X.A (f (.int i t)) Q E s) :
    UnR X f (rU fun i => .int (g i)) := by
  intro pins s σ H x v Q I rx h
  obtain ⟨i, rfl, q⟩ := h
  obtain ⟨t, rfl⟩ := rx
  exact rule i t s _ _ ⟨.int (g i), H, I.tok _, ⟨_, rfl⟩, q⟩
theorem un_neg : UnR X (unaryOp .USub) (rU fun i => .int (-i)) := unI fun _ _ _ _ _ q => neg_int q
/-! ### bools among ints: n += (a < b) -/
end

/-! ### comparisons -/
def scal : V → V → Bool
  | .non, .non => true | .non, .int _ => true | .int _, .non => true | .non, .bl _ => true | .bl _, .non => true | .non, .str _ => true | .str _, .non => true
  | .int _, .int _ => true | .bl _, .bl _ => true | .str _, .str _ => true | .byt _, .byt _ => true
  | .int _, .str _ => true | .str _, .int _ => true | .bl _, .str _ => true | .str _, .bl _ => true
  | _, _ => false
def rEq : R2 := fun x y H Q => scal x y = true ∧ Q (.bl (decide (x = y))) H
def rNe : R2 := fun x y H Q => scal x y = true ∧ Q (.bl (!decide (x = y))) H

theorem dec_int {i j : Int} : decide (V.int i = V.int j) = (i == j) := by
  rw [Bool.eq_iff_iff]
  simp
theorem dec_bl {i j : Bool} : decide (V.bl i = V.bl j) = (i == j) := by
  rw [Bool.eq_iff_iff]
  simp
theorem dec_str {i j : Str} : decide (V.str i = V.str j) = (i == j) := by
  rw [Bool.eq_iff_iff]
  simp
theorem dec_byt {i j : Array UInt8} : decide (V.byt i = V.byt j) = (i.toList == j.toList) := by
  rw [Bool.eq_iff_iff]
  cases i
  cases j
  simp

section
variable {X : Cx} {a b c : Expr} {ta tb tc : TE} {pos : Pos}
theorem fin_bl {pins : List (Addr × Obj)} {σ : St} {H : Hp} {s : Shared} {Q : VK} {k k' : Bool} (I : Inv X pins σ H s) (q : Q (.bl k) H) (e : k = k') : EP X pins σ Q (.bool k') s := by
  subst e
  exact ⟨.bl k, H, I, rfl, q⟩
theorem op_eq : OpR X (compareOp .Eq) rEq := by
  intro pins s σ H x y v u Q I rx ry h
  obtain ⟨hs, q⟩ := h
  cases x with
  | non =>
    cases rx
    cases y with
    | non => cases ry; exact PySem.EqNone.eq_none_none (fin_bl I q (by simp))
    | bl j => cases ry; exact PySem.EqNone.eq_none_bool (fin_bl I q (by simp))
    | int j => obtain ⟨t', rfl⟩ := ry; exact PySem.EqNone.eq_none_int (fin_bl I q (by simp))
    | str j => obtain ⟨t', rfl⟩ := ry; exact PySem.EqNone.eq_none_str (fin_bl I q (by simp))
    | _ => exact absurd (show false = true from hs) Bool.false_ne_true
  | bl i =>
    cases rx
    cases y with
    | non => cases ry; exact PySem.EqNone.eq_bool_none (fin_bl I q (by simp))
    | bl j => cases ry; exact eq_bool (fin_bl I q dec_bl)
    | str j => obtain ⟨t', rfl⟩ := ry; exact PySem.EqMixed.eq_bool_str (fin_bl I q (by simp))
    | _ => exact absurd (show false = true from hs) Bool.false_ne_true
  | int i =>
    obtain ⟨t, rfl⟩ := rx
    cases y with
    | non => cases ry; exact PySem.EqNone.eq_int_none (fin_bl I q (by simp))
    | int j => obtain ⟨t', rfl⟩ := ry; exact eq_int (fin_bl I q dec_int)
    | str j => obtain ⟨t', rfl⟩ := ry; exact PySem.EqMixed.eq_int_str (fin_bl I q (by simp))
    | _ => exact absurd (show false = true from hs) Bool.false_ne_true
  | str i =>
    obtain ⟨t, rfl⟩ := rx
    cases y with
    | non => cases ry; exact PySem.EqNone.eq_str_none (fin_bl I q (by simp))
    | bl j => cases ry; exact PySem.EqMixed.eq_str_bool (fin_bl I q (by simp))
    | int j => obtain ⟨t', rfl⟩ := ry; exact PySem.EqMixed.eq_str_int (fin_bl I q (by simp))
    | str j => obtain ⟨t', rfl⟩ := ry; exact eq_str (fin_bl I q dec_str)
    | _ => exact absurd (show false = true from hs) Bool.false_ne_true
  | byt i =>
    obtain ⟨t, rfl⟩ := rx
    cases y with
    | byt j => obtain ⟨t', rfl⟩ := ry; exact PySem.W.eq_bytes (fin_bl I q dec_byt)
    | _ => exact absurd (show false = true from hs) Bool.false_ne_true
  | _ => cases y <;> exact absurd (show false = true from hs) Bool.false_ne_true
theorem op_ne : OpR X (compareOp .NotEq) rNe := by
  intro pins s σ H x y v u Q I rx ry h
  obtain ⟨hs, q⟩ := h
  cases x with
  | non =>
    cases rx
    cases y with
    | non => cases ry; exact PySem.EqNone.ne_none_none (fin_bl I q (by simp))
    | bl j => cases ry; exact PySem.EqNone.ne_none_bool (fin_bl I q (by simp))
    | int j => obtain ⟨t', rfl⟩ := ry; exact PySem.EqNone.ne_none_int (fin_bl I q (by simp))
    | str j => obtain ⟨t', rfl⟩ := ry; exact PySem.EqNone.ne_none_str (fin_bl I q (by simp))
    | _ => exact absurd (show false = true from hs) Bool.false_ne_true
  | bl i =>
    cases rx
    cases y with
    | non => cases ry; exact PySem.EqNone.ne_bool_none (fin_bl I q (by simp))
    | bl j => cases ry; exact ne_bool (fin_bl I q (congrArg not dec_bl))
    | str j => obtain ⟨t', rfl⟩ := ry; exact PySem.EqMixed.ne_bool_str (fin_bl I q (by simp))
    | _ => exact absurd (show false = true from hs) Bool.false_ne_true
  | int i =>
    obtain ⟨t, rfl⟩ := rx
    cases y with
    | non => cases ry; exact PySem.EqNone.ne_int_none (fin_bl I q (by simp))
    | int j => obtain ⟨t', rfl⟩ := ry; exact ne_int (fin_bl I q (congrArg not dec_int))
    | str j => obtain ⟨t', rfl⟩ := ry; exact PySem.EqMixed.ne_int_str (fin_bl I q (by simp))
    | _ => exact absurd (show false = true from hs) Bool.false_ne_true
  | str i =>
    obtain ⟨t, rfl⟩ := rx
    cases y with
    | non => cases ry; exact PySem.EqNone.ne_str_none (fin_bl I q (by simp))
    | bl j => cases ry; exact PySem.EqMixed.ne_str_bool (fin_bl I q (by simp))
    | int j => obtain ⟨t', rfl⟩ := ry; exact PySem.EqMixed.ne_str_int (fin_bl I q (by simp))
    | str j => obtain ⟨t', rfl⟩ := ry; exact ne_str (fin_bl I q (congrArg not dec_str))
    | _ => exact absurd (show false = true from hs) Bool.false_ne_true
  | byt i =>
    obtain ⟨t, rfl⟩ := rx
    cases y with
    | byt j => obtain ⟨t', rfl⟩ := ry; exact PySem.W.ne_bytes (fin_bl I q (congrArg not dec_byt))
    | _ => exact absurd (show false = true from hs) Bool.false_ne_true
  | _ => cases y <;> exact absurd (show false = true from hs) Bool.false_ne_true

theorem op_lt : OpR X (compareOp .Lt) (rI0 fun i j => .bl (decide (i < j))) := opB0 fun _ _ _ _ _ _ _ q => lt_int q
theorem op_le : OpR X (compareOp .LtE) (rI0 fun i j => .bl (decide (i ≤ j))) := opB0 fun _ _ _ _ _ _ _ q => le_int q
theorem op_gt : OpR X (compareOp .Gt) (rI0 fun i j => .bl (decide (j < i))) := opB0 fun _ _ _ _ _ _ _ q => gt_int q
theorem op_ge : OpR X (compareOp .GtE) (rI0 fun i j => .bl (decide (j ≤ i))) := opB0 fun _ _ _ _ _ _ _ q => ge_int q
theorem nomark (b : Expr) {op : CmpOp} (h : op ≠ .In := by decide) (h2 : op ≠ .NotIn := by decide) : behindInMarks op b = false := by
  have e1 : (op == CmpOp.In) = false := by cases op <;> first | rfl | exact absurd rfl h
  have e2 : (op == CmpOp.NotIn) = false := by cases op <;> first | rfl | exact absurd rfl h2
  cases b <;> simp [behindInMarks, e1, e2]
theorem pe_cmpR {op : CmpOp} {r : R2} (ho : OpR X (compareOp op) r) (ha : PE X a ta) (hb : PE X b tb) (hm : behindInMarks op b = false) : PE X (.Compare a [op] [b] pos) (tOp r ta tb) := by
  intro pins s σ H Q I h
  exact wpAny_Compare1 (binT ha hb I h fun v u s2 x y H2 I2 rx ry q => ho pins s2 σ H2 x y v u Q I2 rx ry q) hm
def tTest (t : TE) : TT := fun σ H Q => t σ H fun x H' => ∃ k, x = .bl k ∧ Q k H'
theorem pt_cmpR {op : CmpOp} {r : R2} (ho : OpR X (compareOp op) r) (ha : PE X a ta) (hb : PE X b tb) (hm : behindInMarks op b = false) : PT X (.Compare a [op] [b] pos) (tTest (tOp r ta tb)) := by
  intro pins s σ H Q I h
  refine wpAny_isTrue_Compare1 (thn (ha pins s σ H _ I h) fun v s1 ⟨x, H1, I1, r1, q1⟩ => thn (hb pins s1 σ H1 _ I1 q1) fun u s2 ⟨y, H2, I2, r2, q2⟩ =>
    thn (ho pins s2 σ H2 x y v u _ I2 r1 r2 q2) fun c s3 ⟨z, H3, I3, r3, k, e, q3⟩ => ?_) hm
  subst e
  cases r3
  exact wpAny_truthy_bool ⟨H3, I3, q3⟩
/-! ### truth -/
def TruV (K : PySem.W.Frag) (x : V) (H : Hp) (k : Bool) : Prop :=
  match x with
  | .non => k = false
  | .bl b => k = b
  | .int i => k = (i != 0)
  | .str y => y.length ≤ sizeLine ∧ k = ((y.length : Int) != 0)
  | .byt y => y.size ≤ sizeLine ∧ k = ((y.size : Int) != 0)
  | .ref p => (∃ xs, SqL K H p xs ∧ k = !xs.isEmpty) ∨ (∃ xs, SqT K H p xs ∧ k = !xs.isEmpty) ∨ ∃ kvs, H p = some (.dK kvs) ∧ k = !kvs.isEmpty
  | _ => False
theorem isEmpty_kv {κ : Type} {kvs : List (κ × V)} {vs : List (κ × Value)} (r : KV kvs vs) : (!vs.isEmpty) = !kvs.isEmpty := by
  cases r <;> rfl
theorem isEmpty_of {xs : List V} {its : List Value} (r : Vals xs its) : (!its.toArray.isEmpty) = !xs.isEmpty := by
  cases r <;> simp
theorem line63 : (sizeLine : Nat) < 2 ^ 63 := by rw [sizeLine_eq]; decide
theorem tru_ok : TruR X (fun x H Q => ∃ k, TruV X.K x H k ∧ Q k H) := by
  intro pins s σ H x v Q I rx h
  obtain ⟨k, e, q⟩ := h
  have hl := line63
  have hs : sizeLine = 16777216 := sizeLine_eq
  cases x with
  | non =>
    cases rx
    have e' : k = false := e
    subst e'
    exact truthy_none ⟨H, I, q⟩
  | bl b =>
    cases rx
    have e' : k = b := e
    subst e'
    exact wpAny_truthy_bool ⟨H, I, q⟩
  | int i =>
    obtain ⟨t, rfl⟩ := rx
    have e' : k = (i != 0) := e
    subst e'
    exact PySem.P.truthy_int ⟨H, I, q⟩
  | str y =>
    obtain ⟨t, rfl⟩ := rx
    obtain ⟨hy, e'⟩ : y.length ≤ sizeLine ∧ k = ((y.length : Int) != 0) := e
    subst e'
    exact PySem.P.truthy_str (by omega) ⟨H, I.tok _, q⟩
  | byt y =>
    obtain ⟨t, rfl⟩ := rx
    obtain ⟨hy, e'⟩ : y.size ≤ sizeLine ∧ k = ((y.size : Int) != 0) := e
    subst e'
    exact PySem.W.truthy_bytes (by omega) ⟨H, I.tok _, q⟩
  | ref p =>
    cases rx
    have e' : (∃ xs, SqL X.K H p xs ∧ k = !xs.isEmpty) ∨ (∃ xs, SqT X.K H p xs ∧ k = !xs.isEmpty) ∨ ∃ kvs, H p = some (.dK kvs) ∧ k = !kvs.isEmpty := e
    rcases e' with ⟨xs, hx, e'⟩ | ⟨xs, hx, e'⟩ | ⟨kvs, hx, e'⟩
    · subst e'
      obtain ⟨its, r, pl, hz⟩ := I.list hx
      have hlen := r.length
      exact wpAny_truthy_list pl.isList (by simp only [List.size_toArray]; omega) ⟨H, I.tok _, by rw [isEmpty_of r]; exact q⟩
    · subst e'
      obtain ⟨its, r, pl, hz⟩ := I.tuple hx
      have hlen := r.length
      exact truthy_tuple pl (by simp only [List.size_toArray]; omega) ⟨H, I.tok _, by rw [isEmpty_of r]; exact q⟩
    · subst e'
      obtain ⟨hz, hS, vs, r, m⟩ : kvs.length ≤ sizeLine ∧ (p == sysModules) = false ∧ ∃ vs, KV kvs vs ∧ s.heap.DictOf (mixKind X.prog X.w) p vs := I.hok p _ hx
      have hlen : kvs.length = vs.length := Paired.length r
      exact wpAny_truthy_dict hS m (by omega) ⟨H, I.tok _, by rw [isEmpty_kv r]; exact q⟩
  | _ => exact (show False from e).elim
/-! ### strs and bytes -/
/-! ### scalar builtins, by CallR -/
theorem vals1 {x : V} {us : List Value} (r : Vals [x] us) : ∃ u, us = [u] ∧ RelV x u := by
  cases r with
  | cons r1 r2 => cases r2; exact ⟨_, rfl, r1⟩
theorem vals2 {x y : V} {us : List Value} (r : Vals [x, y] us) : ∃ u w', us = [u, w'] ∧ RelV x u ∧ RelV y w' := by
  cases r with
  | cons r1 r2 =>
    cases r2 with
    | cons r3 r4 => cases r4; exact ⟨_, _, rfl, r1, r3⟩
theorem call_max2 (hc : X.calm = true) : CallR X (.builtin "max") (fun xs H Q => ∃ i j, xs = [.int i, .int j] ∧ Q (.int (if j > i then j else i)) H) := by
  intro pins s σ H xs us Q I r h
  obtain ⟨i, j, rfl, q⟩ := h
  obtain ⟨u, w', rfl, ⟨t, rfl⟩, ⟨t', rfl⟩⟩ := vals2 r
  refine max_two_ints (I.ok.hd hc) fun h' tk k => ⟨_, H, I.kept k, ?_, q⟩
  by_cases hj : j > i
  · rw [if_pos hj, if_pos hj]; exact ⟨_, rfl⟩
  · rw [if_neg hj, if_neg hj]; exact ⟨_, rfl⟩
theorem call_min2 (hc : X.calm = true) : CallR X (.builtin "min") (fun xs H Q => ∃ i j, xs = [.int i, .int j] ∧ Q (.int (if j < i then j else i)) H) := by
  intro pins s σ H xs us Q I r h
  obtain ⟨i, j, rfl, q⟩ := h
  obtain ⟨u, w', rfl, ⟨t, rfl⟩, ⟨t', rfl⟩⟩ := vals2 r
  refine min_two_ints (I.ok.hd hc) fun h' tk k => ⟨_, H, I.kept k, ?_, q⟩
  by_cases hj : j < i
  · rw [if_pos hj, if_pos hj]; exact ⟨_, rfl⟩
  · rw [if_neg hj, if_neg hj]; exact ⟨_, rfl⟩
end
end L2

namespace L2
open PySem PySem.Spec PyProof.Rows

/-! ### an instance, its attributes a map -/
structure ObjM (h : Heap) (x dx C : Addr) (mA : Str → Option Value) : Prop where
  obj : h.get? x = some (PySem.W.instObj C dx)
  ns : h.Ns1 dx mA
  ne : dx ≠ x

theorem lookIn_ns {h : Heap} {dx : Addr} {mA : Str → Option Value} (n : h.Ns1 dx mA) : ∃ od, h.get? dx = some od ∧ ∀ name, PySem.W.lookIn name od = some (mA name) := by
  obtain ⟨o, es, ep, ho, hd, hk, _, hm⟩ := n
  refine ⟨o, ho, fun name => ?_⟩
  have e := hm name
  unfold nsFind findBy at e
  rw [← Array.find?_toList] at e
  unfold PySem.W.lookIn
  rw [hd]
  dsimp only
  split
  · rename_i y q
    rw [q] at e
    exact congrArg some e
  · rename_i q
    rw [q] at e
    have a : es.toList.any (·.refKey) = false := by
      rw [List.any_eq_false]
      intro y hy
      obtain ⟨z, t, hkey⟩ := hk y (Array.mem_toList_iff.mp hy)
      simp [DictEntry.refKey, hkey]
    have a' : ¬ es.toList.any (·.refKey) = true := by rw [a]; exact Bool.false_ne_true
    rw [if_neg a']
    exact congrArg some e

theorem ObjM.look {h : Heap} {x dx C : Addr} {mA : Str → Option Value} (I : ObjM h x dx C mA) : ∃ od, PySem.W.InstAt h x (PySem.W.instObj C dx) C (some od) ∧ ∀ name, PySem.W.lookIn name od = some (mA name) :=
  let ⟨od, ho, hl⟩ := lookIn_ns I.ns
  ⟨od, ⟨I.obj, rfl, rfl, ho⟩, hl⟩

section
variable {prog : Program} {w : World} {A : Around} {E : Value → Shared → Prop} {s : Shared} {K : PySem.W.Frag} {x dx C f : Addr} {mA : Str → Option Value} {name : Str} {v : Value}

end

/-! ### the attributes as a list of pairs -/
theorem RelO.some_of {v : V} {o : Option Value} (r : RelO (some v) o) : ∃ u, o = some u ∧ RelV v u := by
  cases o with
  | none => exact (show False from r).elim
  | some u => exact ⟨u, rfl, r⟩
section
variable {P : Program} {w : World} {H H' : Hp} {h h' : Heap} {a C dx : Addr} {fs fs' : List (Str × V)}
theorem ins_get (hok : HOk P w H h) (e : H a = some (.ins C dx fs)) : ∃ mA, ObjM h a dx C mA ∧ (∀ f, RelO (fs.lookup f) (mA f)) ∧ PySem.Within mA (fs.map (·.1)) ∧ fs.length ≤ 1000 ∧ H dx = some (.own a) := by
  obtain ⟨d, z, ne, ob, mA, n, r, q⟩ := (show ObjOk P w H h a (.ins C dx fs) from hok a _ e)
  exact ⟨mA, ⟨ob, n, ne⟩, r, q, z, d⟩
end

/-! ### what of the text a class must have -/
structure Cls (K : PySem.W.Frag) (C : Addr) : Prop where
  pg : PySem.W.plainGet K C Str.empty = true
  hd : PySem.W.hasDictIn K C = true
  po : PySem.W.plainOver K C = true
  sa : PySem.W.findIn K (.ref C) "__setattr__" = some (some (.builtin "object.__setattr__"))
theorem Cls.get {K : PySem.W.Frag} {C : Addr} (c : Cls K C) (f : Str) : PySem.W.plainGet K C f = true := c.pg
section
variable {X : Cx} {pins : List (Addr × Obj)} {σ : St} {H : Hp} {s : Shared} {a C dx : Addr} {fs : List (Str × V)} {f : Str} {v : V} {A : Around} {E : Value → Shared → Prop}

end

/-! ### readings and rules -/
section
variable {X : Cx} {o e value : Expr} {f : Str} {pos pos' tpos : Pos} {ta tv : TE}
end

/-! ### isinstance -/
section
variable {X : Cx} {pins : List (Addr × Obj)} {σ : St} {H : Hp} {s : Shared} {A : Around} {E : Value → Shared → Prop} {Q : Value → Shared → Prop} {c : Value} {b : Bool}
inductive TyOf (K : PySem.W.Frag) (H : Hp) : V → Value → Prop where
  | non : TyOf K H .non (.type "NoneType")
  | bl (x : Bool) : TyOf K H (.bl x) (.type "bool")
  | int (i : Int) : TyOf K H (.int i) (.type "int")
  | str (x : Str) : TyOf K H (.str x) (.type "str")
  | flt (x : UInt64) : TyOf K H (.flt x) (.type "float")
  | lst {a : Addr} {xs : List V} (e : H a = some (.lst xs)) : TyOf K H (.ref a) (.type "list")
  | frz {a : Addr} {o : Obj} {xs : List V} (e : H a = some (.frz o (.lst xs))) : TyOf K H (.ref a) (.type "list")
  | tup {a : Addr} {xs : List V} (e : H a = some (.tup xs)) : TyOf K H (.ref a) (.type "tuple")
  | dK {a : Addr} {kvs : List (Key × V)} (e : H a = some (.dK kvs)) : TyOf K H (.ref a) (.type "dict")
  | dT {a : Addr} {kvs : List (List Key × V)} (e : H a = some (.dT kvs)) : TyOf K H (.ref a) (.type "dict")
  | ins {a C dx : Addr} {fs : List (Str × V)} (e : H a = some (.ins C dx fs)) (cl : Cls K C) (ha : PySem.W.findIn K (.ref C) "__class__" = some (some (.builtin "object.__class__")))
      (hn : PySem.W.specialIn K (.builtin "object.__class__") "__get__" = some (some (.builtin "getset_descriptor.__get__"))) (htk : PySem.W.takesIn K (.builtin "object.__class__") = some true)
      (hm : PySem.W.mroIn K C (.type "object") = some true) : TyOf K H (.ref a) (.ref C)
theorem isinst_ok {x : V} {u t : Value} (I : Inv X pins σ H s) (rx : RelV x u) (ty : TyOf X.K H x t) (e : PySem.W.kitOne X.K t c = some b) (h : ∀ tk, Q (.bool b) { s with toks := tk }) :
    wpAny (model X.prog X.w) A (call (.builtin "isinstance") [u, c]) Q E s := by
  cases ty with
  | non => cases (show u = Value.none from rx); exact PySem.W.kia_one PySem.W.kitx_none I.kIn True.intro e (fun z => nomatch z) h
  | bl y => cases (show u = Value.bool y from rx); exact PySem.W.kia_one PySem.W.kitx_bool I.kIn True.intro e (fun z => nomatch z) h
  | int i => obtain ⟨t, q⟩ := (show ∃ t, u = Value.int i t from rx); cases q; exact PySem.W.kia_one PySem.W.kitx_int I.kIn True.intro e (fun z => nomatch z) h
  | str y => obtain ⟨t, q⟩ := (show ∃ t, u = Value.str y t from rx); cases q; exact PySem.W.kia_one PySem.W.kitx_str I.kIn True.intro e (fun z => nomatch z) h
  | flt y => obtain ⟨t, q⟩ := (show ∃ t, u = Value.float y t from rx); cases q; exact PySem.W.kia_one PySem.W.kitx_float I.kIn True.intro e (fun z => nomatch z) h
  | @lst a xs ea =>
    cases (show u = Value.ref a from rx)
    obtain ⟨_, _, n, _, h1⟩ := (show ObjOk X.prog X.w H s.heap a (.lst xs) from I.hok a _ ea)
    exact PySem.W.kia_one PySem.W.kitx_list I.kIn ⟨_, h1, rfl⟩ e (fun z => nomatch z) h
  | @frz a ob xs ea =>
    cases (show u = Value.ref a from rx)
    obtain ⟨_, _, _, n, _, h1⟩ := (show ObjOk X.prog X.w H s.heap a (.frz ob (.lst xs)) from I.hok a _ ea)
    exact PySem.W.kia_one PySem.W.kitx_list I.kIn ⟨_, h1, rfl⟩ e (fun z => nomatch z) h
  | @tup a xs ea =>
    cases (show u = Value.ref a from rx)
    obtain ⟨_, _, _, p⟩ := (show ObjOk X.prog X.w H s.heap a (.tup xs) from I.hok a _ ea)
    obtain ⟨o, h1, h2, _⟩ := p
    exact PySem.W.kia_one PySem.W.kitx_tuple I.kIn ⟨o, h1, h2⟩ e (fun z => nomatch z) h
  | @dK a kvs ea =>
    cases (show u = Value.ref a from rx)
    obtain ⟨_, _, vs, _, p⟩ := (show ObjOk X.prog X.w H s.heap a (.dK kvs) from I.hok a _ ea)
    obtain ⟨o, es, ep, h1, h2, _⟩ := p
    exact PySem.W.kia_one PySem.W.kitx_dict I.kIn ⟨o, h1, h2.1⟩ e (fun z => nomatch z) h
  | @dT a kvs ea =>
    cases (show u = Value.ref a from rx)
    obtain ⟨_, _, xs, _, o, es, ep, h1, h2, _⟩ := (show ObjOk X.prog X.w H s.heap a (.dT kvs) from I.hok a _ ea)
    exact PySem.W.kia_one PySem.W.kitx_dict I.kIn ⟨o, h1, h2.1⟩ e (fun z => nomatch z) h
  | @ins a C dx fs ea cl ha hn htk hm =>
    cases (show u = Value.ref a from rx)
    obtain ⟨mA, O, _⟩ := ins_get I.hok ea
    obtain ⟨od, J, _⟩ := O.look
    exact PySem.W.kia_one (PySem.W.kitx_own (cl.get _) cl.hd ha hn htk hm) I.kIn J e (fun z => nomatch z) h
end
end L2

namespace L2
open PySem PySem.Spec PyProof.Rows

/-! ### room -/
structure Room (k : Nat) (A : Around) : Prop where
  hd : A.handled = none
  dp : A.depth + 3 * k + 5 < recursionLimit
  un : A.units + 16 * k + 200 < cLine
theorem Room.mono {j k : Nat} {A : Around} (r : Room k A) (h : j ≤ k) : Room j A := ⟨r.hd, by have := r.dp; omega, by have := r.un; omega⟩
theorem Room.deeper {k : Nat} {A : Around} (r : Room (k + 1) A) (env : Env) : Room k (A.deeper env) :=
  ⟨r.hd, by have := r.dp; show A.depth + 1 + 3 * k + 5 < _; omega, by have := r.un; show A.units + 3 + 16 * k + 200 < _; omega⟩
theorem Room.depth {k : Nat} {A : Around} (r : Room k A) : A.depth < recursionLimit := by have := r.dp; omega
theorem Room.units {k : Nat} {A : Around} (r : Room k A) : A.units + 64 < cLine := by have := r.un; omega
/-! ### argument lists and displays -/
def tNil : TA := fun _ H Q => Q [] H
def tCons (ta : TE) (tr : TA) : TA := fun σ H Q => ta σ H fun x H1 => tr σ H1 fun xs H2 => Q (x :: xs) H2
section
variable {X : Cx} {e : Expr} {es : List Expr} {te : TE} {t : TA} {pos : Pos}
theorem pa_nil : PA X [] tNil := fun _ _ _ _ H Q I h => Calls.spliced_nil ⟨[], H, I, .nil, h⟩
theorem pa_cons (ha : PE X e te) (hr : PA X es t) (hs : starEach (e :: es) X.env = (false, eval e X.env) :: starEach es X.env := by rfl) : PA X (e :: es) (tCons te t) := by
  intro pos pins s σ H Q I h
  rw [hs]
  show wpAny _ _ (spliced ((false, eval e X.env) :: backTo pos (starEach es X.env))) _ _ s
  refine Calls.spliced_cons (thn (ha pins s σ H _ I h) fun u s1 ⟨x, H1, I1, r1, q1⟩ => ?_)
  exact thn (hr pos pins s1 σ H1 _ I1 q1) fun us s2 ⟨xs, H2, I2, r2, q2⟩ => ⟨x :: xs, H2, I2, .cons r1 r2, q2⟩

def tTup (t : TA) : TE := fun σ H Q => t σ H fun xs H1 => xs.length ≤ sizeLine ∧ ∀ p, H1 p = none → Q (.ref p) (upd H1 p (.tup xs))
def tLst (t : TA) : TE := fun σ H Q => t σ H fun xs H1 => xs.length ≤ sizeLine ∧ ∀ p, H1 p = none → Q (.ref p) (upd H1 p (.lst xs))
theorem pe_tup {x1} (h : PA X es t) : PE X (.Tuple es x1 pos) (tTup t) := by
  intro pins s σ H Q I hq
  refine wpAny_Tuple_spliced (thn (h pos pins s σ H _ I hq) fun us s1 ⟨xs, H1, I1, r, z, q⟩ => ⟨by rw [← r.length]; exact z, ?_⟩)
  have hf : H1 s1.heap.objs.size = none := I1.hok.fresh (Nat.le_refl _)
  refine ⟨.ref s1.heap.objs.size, upd H1 s1.heap.objs.size (.tup xs), I1.laid (t' := s1.toks) (fun b u e => Heap.get?_push_of_some _ e) (Nat.le_refl _) ?_, rfl, q _ hf⟩
  exact ⟨z, us, r, ⟨_, Heap.get?_push_size _ rfl, rfl, _, rfl⟩⟩
theorem pe_lst (h : PA X es t) : PE X (.List es pos) (tLst t) := by
  intro pins s σ H Q I hq
  refine wpAny_List_spliced (thn (h pos pins s σ H _ I hq) fun us s1 ⟨xs, H1, I1, r, z, q⟩ => ⟨by rw [← r.length]; exact z, ?_⟩)
  have hf : H1 s1.heap.objs.size = none := I1.hok.fresh (Nat.le_refl _)
  refine ⟨.ref s1.heap.objs.size, upd H1 s1.heap.objs.size (.lst xs), I1.laid (t' := s1.toks) (fun b u e => Heap.get?_push_of_some _ e) (Nat.le_refl _) ?_, rfl, q _ hf⟩
  exact ⟨z, us, 0, r, Heap.get?_push_size _ rfl⟩
end

/-! ### what a def promises -/
abbrev Sp := List V → Hp → VK → XK → Prop
abbrev CXT := List Env → Hp → Shared → XK → Value → Shared → Prop

structure Env0 (P : Program) (w : World) (K : PySem.W.Frag) (mg : Str → Option Value) (base : Heap) (A : Around) (outer : List Env) (s : Shared) (H : Hp) : Prop where
  frames : A.frames = some outer
  mod : Mod K mg base
  bs : ∀ b o, base.get? b = some o → s.heap.get? b = some o ∧ H b = none
  bsz : base.objs.size ≤ s.heap.objs.size
  funs : s.heap.FunFrames base outer
  frf : ∀ b ∈ frs outer, H b = none
  hok : HOk P w H s.heap
  bare : AllBare s.gens
def CE (outer : List Env) (P : Program) (w : World) (H : Hp) (s : Shared) (Q : VK) (u : Value) (s' : Shared) : Prop :=
  ∃ v H', s'.os = s.os ∧ AllBare s'.gens ∧ Un (frs outer) [] H H' s.heap s'.heap ∧ HOk P w H' s'.heap ∧ RelV v u ∧ Q v H'
def CR (CX : CXT) (outer : List Env) (P : Program) (w : World) (H : Hp) (s : Shared) (Q : VK) (E : XK) (r : Result) (s' : Shared) : Prop :=
  match r with
  | .ok (.ret u) => CE outer P w H s Q u s'
  | .ok _ => False
  | .error e => CX outer H s E e s'
structure FnOk (P : Program) (w : World) (K : PySem.W.Frag) (mg : Str → Option Value) (base : Heap) (CX : CXT) (k : Nat) (f : Addr) (fd : FuncData) (ps : List Str) (sp : Sp) : Prop where
  len : ∀ vs H Q E, sp vs H Q E → vs.length = ps.length
  run : ∀ (A : Around) (outer : List Env) (s : Shared) (H : Hp) (args : Args) (us : List Value) (vs : List V) (Q : VK) (E : XK), Room k A → Env0 P w K mg base A outer s H → BindsTo s fd args (ps.zip us) → Vals vs us → sp vs H Q E →
    codeAny (model P w) A (.call (.ref f) args) (CR CX outer P w H s Q E) s
theorem FnOk.mono {P : Program} {w : World} {K : PySem.W.Frag} {mg : Str → Option Value} {base : Heap} {CX : CXT} {j k : Nat} {f : Addr} {fd : FuncData} {ps : List Str} {sp : Sp} (F : FnOk P w K mg base CX j f fd ps sp) (h : j ≤ k) :
    FnOk P w K mg base CX k f fd ps sp := ⟨F.len, fun A outer s H args us vs Q E hr => F.run A outer s H args us vs Q E (hr.mono h)⟩
section
variable {X : Cx} {pins : List (Addr × Obj)} {σ : St} {H : Hp} {s s' : Shared}
theorem Inv.env0 (I : Inv X pins σ H s) : Env0 X.prog X.w X.K X.mg X.base X.A X.stack s H :=
  ⟨I.ok.frames, I.ok.mod, I.bs, Nat.le_trans I.ok.bsz I.sz, I.stack, I.stkFree, I.hok, I.bare⟩
theorem Inv.after {Q : VK} {u : Value} (I : Inv X pins σ H s) (h : CE X.stack X.prog X.w H s Q u s') : EP X pins σ Q u s' := by
  obtain ⟨v, H', os, bare, un, hok, r, q⟩ := h
  obtain ⟨hh, g, d, t, os'⟩ := s'
  obtain rfl : os' = s.os := os
  exact ⟨v, H', I.call (h' := hh) (g' := g) (d' := d) (t' := t) (ch := []) un hok bare (fun b z => absurd z (by simp)), r, q⟩
end

/-! ### calls -/
def tCall (sp : Sp) (dvs : List V) (E : XK) (t : TA) : TE := fun σ H Q => t σ H fun vs H1 => sp (vs ++ dvs) H1 Q E
def Binds (K : PySem.W.Frag) (fd : FuncData) (ps : List Str) (ds : List Value) : Prop :=
  ∀ (s : Shared) (us : List Value), K.In s.heap → (us ++ ds).length = ps.length → BindsTo s fd ⟨us, []⟩ (ps.zip (us ++ ds))
theorem Binds.all {K : PySem.W.Frag} {fd : FuncData} {ps : List Str} (h : ∀ us : List Value, us.length = ps.length → bindArgs fd ⟨us, []⟩ = pure (ps.zip us)) : Binds K fd ps [] := fun s us _ hl => by
  rw [List.append_nil] at hl ⊢
  exact .of_eq (h us hl)

def Passes (CX : CXT) (X : Cx) (E : XK) : Prop := ∀ (pins : List (Addr × Obj)) (σ : St) (H : Hp) (s : Shared) (e : Value) (s' : Shared), Inv X pins σ H s → CX X.stack H s E e s' → X.xe e s'

section
variable {X : Cx} {CX : CXT} {k : Nat} {f C : Addr} {fd : FuncData} {ps : List Str} {sp : Sp} {dvs : List V} {ds : List Value} {E : XK} {x m : Str} {p pos apos : Pos} {e o : Expr} {es : List Expr} {ta : TE} {t : TA}

theorem run_fn {pins : List (Addr × Obj)} {σ : St} {H : Hp} {s : Shared} {Q : VK} {us : List Value} {vs : List V} (F : FnOk X.prog X.w X.K X.mg X.base CX k f fd ps sp) (hr : Room k X.A) (hb : Binds X.K fd ps ds) (hd : Vals dvs ds) (hx : Passes CX X E)
    (I : Inv X pins σ H s) (r : Vals vs us) (h : sp (vs ++ dvs) H Q E) : wpAny (model X.prog X.w) X.A (call (.ref f) us) (EP X pins σ Q) X.xe s := by
  have r2 : Vals (vs ++ dvs) (us ++ ds) := r.append hd
  have hl : (us ++ ds).length = ps.length := by rw [← r2.length]; exact F.len _ _ _ _ h
  refine wpAny_call (codeAny_mono (F.run X.A X.stack s H ⟨us, []⟩ (us ++ ds) (vs ++ dvs) Q E hr I.env0 (hb s us I.kIn hl) r2 h) fun r s' hq => ?_)
  cases r with
  | error e => exact hx pins σ H s e s' I hq
  | ok fl =>
    cases fl with
    | ret u => exact I.after hq
    | next => exact False.elim hq
    | brk => exact False.elim hq
    | cont => exact False.elim hq

theorem pe_call (F : FnOk X.prog X.w X.K X.mg X.base CX k f fd ps sp) (hr : Room k X.A) (hg : Gl X x) (hm : X.mg x = some (.ref f)) (hk : PySem.W.keepIn X.K (.ref f) = true) (hb : Binds X.K fd ps ds) (hd : Vals dvs ds) (hx : Passes CX X E)
    (ha : PA X (e :: es) t) (hdb : (x == ("__debug__" : Str)) = false := by decide) (he : starEach (e :: es) X.env = (false, eval e X.env) :: starEach es X.env := by rfl) (hpl : (backTo pos (starEach es X.env)).any (·.1) = false := by rfl) :
    PE X (.Call (.Name x p) (e :: es) [] pos) (tCall sp dvs E t) := by
  intro pins s σ H Q I h
  refine wpAny_Call_Name_kw (ld_glob I hg hm ?_ hdb)
  refine PySem.W.callWith_K (h₀ := X.base) I.ok.mod.kin hk (thn (ha pos pins s σ H _ I h) fun us s1 ⟨vs, H1, I1, r, q⟩ => ⟨I1.kIn, ?_⟩) he hpl
  exact run_fn F hr hb hd hx I1 r q
end

/-! ### keywords -/
section
variable {X : Cx} {CX : CXT} {k : Nat} {f C : Addr} {fd : FuncData} {ps ks : List Str} {sp : Sp} {E : XK} {x m : Str} {p pos apos kpos : Pos} {e o : Expr} {es : List Expr} {kws : List Keyword} {te ta : TE} {t tk : TA} {nm : Option Str}
variable {g : List Value → List Value → List Value} {gV : List V → List V → List V}
end

/-! ### a def's body keeps its promise -/
structure FnScope (N P : List Str) (sc : Scope) : Prop where
  kind : sc.kind = .function
  co : sc.isCoroutine = false
  gen : sc.isGenerator = false
  nd : N.Nodup
  pre : N.take P.length = P
  par : ∀ x ∈ P, sc.names.lookup x = some .local ∨ sc.names.lookup x = some .cell
  nofree : ∀ y ∈ sc.names, y.2 ≠ .free

theorem bindL_out {kindOf : Str → Option NameKind} {x : Str} : ∀ {binds : List (Str × Value)} {m : Str → Option Value}, (∀ v, (x, v) ∉ binds) → bindL kindOf binds m x = m x
  | [], _, _ => rfl
  | (n, v) :: r, m, h => by
    unfold bindL
    rw [bindL_out fun w hw => h w (List.mem_cons_of_mem _ hw)]
    split
    · have : x ≠ n := by rintro rfl; exact h v List.mem_cons_self
      simp [this]
    · rfl
theorem bindC_out {kindOf : Str → Option NameKind} {x : Str} : ∀ {binds : List (Str × Value)} {m : Str → Option Value}, (∀ v, (x, v) ∉ binds) → bindC kindOf binds m x = m x
  | [], _, _ => rfl
  | (n, v) :: r, m, h => by
    unfold bindC
    rw [bindC_out fun w hw => h w (List.mem_cons_of_mem _ hw)]
    split
    · rfl
    · have : x ≠ n := by rintro rfl; exact h v List.mem_cons_self
      simp [this]
theorem bindL_get {kindOf : Str → Option NameKind} {x : Str} {v : Value} : ∀ {P : List Str} {vs : List Value} {i : Nat} {m : Str → Option Value}, P.Nodup → P[i]? = some x → vs[i]? = some v → kindOf x = some .local →
    bindL kindOf (P.zip vs) m x = some v
  | [], _, _, _, _, h, _, _ => by simp at h
  | _ :: _, [], _, _, _, _, h, _ => by simp at h
  | p :: P, w :: vs, 0, m, nd, h1, h2, hk => by
    simp at h1 h2; subst h1; subst h2
    show bindL kindOf ((p, w) :: P.zip vs) m p = _
    unfold bindL
    rw [bindL_out fun v hv => (List.nodup_cons.mp nd).1 (List.of_mem_zip hv).1, if_pos hk]
    simp
  | p :: P, w :: vs, i + 1, m, nd, h1, h2, hk => by
    show bindL kindOf ((p, w) :: P.zip vs) m x = _
    unfold bindL
    exact bindL_get (i := i) (List.nodup_cons.mp nd).2 (by simpa using h1) (by simpa using h2) hk
theorem bindC_get {kindOf : Str → Option NameKind} {x : Str} {v : Value} : ∀ {P : List Str} {vs : List Value} {i : Nat} {m : Str → Option Value}, P.Nodup → P[i]? = some x → vs[i]? = some v → kindOf x ≠ some .local →
    bindC kindOf (P.zip vs) m x = some v
  | [], _, _, _, _, h, _, _ => by simp at h
  | _ :: _, [], _, _, _, _, h, _ => by simp at h
  | p :: P, w :: vs, 0, m, nd, h1, h2, hk => by
    simp at h1 h2; subst h1; subst h2
    show bindC kindOf ((p, w) :: P.zip vs) m p = _
    unfold bindC
    rw [bindC_out fun v hv => (List.nodup_cons.mp nd).1 (List.of_mem_zip hv).1, if_neg hk]
    simp
  | p :: P, w :: vs, i + 1, m, nd, h1, h2, hk => by
    show bindC kindOf ((p, w) :: P.zip vs) m x = _
    unfold bindC
    exact bindC_get (i := i) (List.nodup_cons.mp nd).2 (by simpa using h1) (by simpa using h2) hk

def start (N : List Str) (vs : List V) : St := vs.map some ++ List.replicate (N.length - vs.length) none

def cxOf (CX : CXT) (P : Program) (w : World) (K : PySem.W.Frag) (mg : Str → Option Value) (base : Heap) (N : List Str) (qual : Str) (scope : Scope) (f : Addr) (cd : Value) (A : Around) (outer : List Env) (s : Shared) (H : Hp) (E : XK) : Cx where
  prog := P
  w := w
  K := K
  mg := mg
  base := base
  A := A.deeper (envOfC qual scope s.heap.objs.size f cd)
  N := N
  s₀ := s
  H₀ := H
  env := envOfC qual scope s.heap.objs.size f cd
  outer := outer
  stack := envOfC qual scope s.heap.objs.size f cd :: outer
  ex := []
  calm := true
  fn := fun _ => true
  pn := []
  xe := fun e s' => wpAny (model P w) (A.deeper (envOfC qual scope s.heap.objs.size f cd)) (leaving (envOfC qual scope s.heap.objs.size f cd) e) (fun _ s'' => CX outer H s E e s'') (fun e' s'' => CX outer H s E e' s'') s'

theorem cell_has {sc : Scope} {n : Nat} {x : Str} (h : sc.names.lookup x = some .cell) : ∃ c, (cellsFrom n sc.names []).lookup x = some c := by
  have q := PySem.W.cellsFrom_some sc.names n [] (.inl h)
  exact Option.isSome_iff_exists.mp q

theorem inv_start {CX : CXT} {P : Program} {w : World} {K : PySem.W.Frag} {mg : Str → Option Value} {base : Heap} {N ps : List Str} {qual : Str} {scope : Scope} {f : Addr} {cd : Value} {A : Around} {outer : List Env} {s s1 : Shared} {H : Hp} {E : XK} {us : List Value} {vs : List V}
    (S : FnScope N ps scope) (hd : A.handled = none) (e0 : Env0 P w K mg base A outer s H) (hl : vs.length = ps.length) (r : Vals vs us)
    (x : InCallC s s.heap.objs.size (bindL (envOfC qual scope s.heap.objs.size f cd).kindOf (ps.zip us) fun _ => none) (cellsFrom (s.heap.objs.size + 1) scope.names []) (bindC (envOfC qual scope s.heap.objs.size f cd).kindOf (ps.zip us) fun _ => none) s1) :
    Inv (cxOf CX P w K mg base N qual scope f cd A outer s H E) [] (start N vs) H s1 := by
  have hpl : ps.length ≤ N.length := by have := congrArg List.length S.pre; rw [List.length_take] at this; omega
  obtain ⟨h1, tk, rfl, hk⟩ := x.done
  have noA : ∀ b : Addr, b ∉ (cxOf CX P w K mg base N qual scope f cd A outer s H E).ex := fun b z => absurd (show b ∈ ([] : List Addr) from z) (by simp)
  refine ⟨⟨e0.mod, S.kind, rfl, rfl, Nat.le_refl _, fun y z c h1 h2 => ?_, fun y hy => ?_, fun y c _ h => ?_, fun _ => hd, Around.frames_deeper e0.frames, .inr ⟨rfl, rfl⟩, fun b z => absurd z (noA b), e0.bs, e0.bsz, fun b _ _ => noA b, fun b z => absurd z (noA b), e0.funs, e0.frf⟩,
    rfl, e0.bare, Un.kept hk, ⟨_, x.toInCall.ns, fun i y v h1 h2 h3 => ?_⟩, fun y c h => ⟨_, x.cell y c h⟩, e0.hok.fresh (Nat.le_refl _), fun y c h => ?_, fun p hp => absurd (show p ∈ ([] : List (Addr × Obj)) from hp) (by simp), e0.hok.kept hk, ?_⟩
  · exact name_of_addr x.apart (PySem.mem_of_lookup h1) (PySem.mem_of_lookup h2)
  · have hy : scope.names.lookup y = some .cell ∨ scope.names.lookup y = some .free := hy
    rcases hy with hy | hy
    · exact cell_has hy
    · exact absurd rfl (S.nofree _ (PySem.mem_of_lookup hy))
  · exact Nat.le_of_lt (x.above y c (PySem.mem_of_lookup h))
  · have hi : i < vs.length := by
      unfold start at h2
      by_cases hi : i < vs.length
      · exact hi
      · rw [List.getElem?_append_right (by simpa using hi)] at h2
        rw [List.getElem?_replicate] at h2
        split at h2 <;> cases h2
    have ha : vs[i]? = some v := by
      unfold start at h2
      rw [List.getElem?_append_left (by simpa using hi), List.getElem?_map] at h2
      cases e : vs[i]? with
      | none => rw [e] at h2; cases h2
      | some a => rw [e] at h2; cases h2; rfl
    obtain ⟨u, hu, rv⟩ := r.get ha
    have hp : ps[i]? = some y := by
      rw [← S.pre, List.getElem?_take_of_lt (by omega)]; exact h1
    have ndP : ps.Nodup := by rw [← S.pre]; exact S.nd.sublist (List.take_sublist _ _)
    refine ⟨u, rv, ?_⟩
    rcases S.par y (List.mem_of_getElem? hp) with k | k
    · exact .inl ⟨k, bindL_get ndP hp hu k⟩
    · obtain ⟨c, e⟩ := cell_has (n := s.heap.objs.size + 1) k
      refine .inr ⟨.inl k, c, e, ?_⟩
      have q := x.cell y c e
      rw [bindC_get ndP hp hu (by show scope.names.lookup y ≠ _; rw [k]; decide)] at q
      exact q
  · exact e0.hok.fresh (Nat.le_of_lt (x.above y c (PySem.mem_of_lookup h)))
  · unfold start
    show _ = N.length
    rw [List.length_append, List.length_map, List.length_replicate]
    omega

theorem fn_of {CX : CXT} {P : Program} {w : World} {K : PySem.W.Frag} {mg : Str → Option Value} {base : Heap} {k : Nat} {f : Addr} {name qual : Str} {params : Arguments} {body : List Stmt} {scope : Scope} {dV kV doc pm cdv ct oc : Value} {an od : Option Addr}
    {osl : Array (Option Value)} {N ps : List Str} {sp : Sp} (lk : K.lookup f = some ⟨oc, od, .func (PySem.W.fnOf name qual params body scope dV kV doc pm an cdv ct), osl⟩) (hcd : PySem.W.codeIn K cdv qual = true) (S : FnScope N ps scope)
    (len : ∀ vs H Q E, sp vs H Q E → vs.length = ps.length)
    (hbody : ∀ (A : Around) (outer : List Env) (s : Shared) (H : Hp) (vs : List V) (Q : VK) (E : XK), Room k (A.deeper (envOfC qual scope s.heap.objs.size f cdv)) → sp vs H Q E →
      ∃ t, PSs (cxOf CX P w K mg base N qual scope f cdv A outer s H E) body t ∧ t { nx := fun _ H' => Q .non H', rt := Q } (start N vs) H) :
    FnOk P w K mg base CX (k + 1) f (PySem.W.fnOf name qual params body scope dV kV doc pm an cdv ct) ps sp := by
  refine ⟨len, fun A outer s H args us vs Q E hr e0 hb r hsp => ?_⟩
  have hl := len _ _ _ _ hsp
  have KX : K.In s.heap := e0.mod.kin.keeps fun b o e => (e0.bs b o e).1
  have lim : s.heap.NoLimit := e0.mod.nolimit.keeps fun b o e => (e0.bs b o e).1
  have hkind : ∀ y ∈ ps.zip us, scope.names.lookup y.1 = some .local ∨ (scope.names.lookup y.1 = some .cell ∧ ((cellsFrom (s.heap.objs.size + 1) scope.names []).lookup y.1).isSome = true) := fun ⟨n, v⟩ hy => by
    rcases S.par n (List.of_mem_zip hy).1 with q | q
    · exact .inl q
    · exact .inr ⟨q, PySem.W.cellsFrom_some _ _ _ (.inl q)⟩
  refine codeAny_call_function hr.depth (KX _ _ lk) rfl S.co S.gen rfl (PySem.W.codeRec_of KX hcd) (hb _ _ _ _ ?_)
  refine wpAny_newFunctionEnv_cells S.kind hkind fun env he s1 x => ?_
  subst he
  refine ⟨lim.keeps x.toInCall.keep, codeAny_func ?_⟩
  obtain ⟨t, ht, hq⟩ := hbody A outer s H vs Q E (hr.deeper _) hsp
  have I : Inv (cxOf CX P w K mg base N qual scope f cdv A outer s H E) [] (start N vs) H s1 := inv_start S hr.hd e0 hl r x
  refine wpAny_mono (ht [] s1 (start N vs) H _ I hq) (fun fl s' hs => ?_) fun e s' hs => hs
  have fin : ∀ {σ' : St} {H' : Hp} {v : V} {u : Value}, Inv (cxOf CX P w K mg base N qual scope f cdv A outer s H E) [] σ' H' s' → RelV v u → Q v H' → CE outer P w H s Q u s' :=
    fun {σ' H' v u} J rv q => ⟨v, H', J.os, J.bare, J.base, J.hok, rv, q⟩
  cases fl with
  | ret u =>
    obtain ⟨v, σ', H', J, rv, q⟩ := hs
    exact fin J rv q
  | next =>
    obtain ⟨σ', H', J, q⟩ := hs
    exact fin (v := V.non) (u := Value.none) J rfl q
  | brk =>
    obtain ⟨_, _, _, q⟩ := hs
    exact False.elim q
  | cont =>
    obtain ⟨_, _, _, q⟩ := hs
    exact False.elim q
end L2

namespace L2
open PySem PySem.Spec PyProof.Rows
section
variable {X : Cx} {x : Str} {p pos : Pos} {e : Expr} {es : List Expr} {t : TA} {id T : String} {r : List V → Hp → VK → Prop}

def tCB (r : List V → Hp → VK → Prop) (t : TA) : TE := fun σ H Q => t σ H fun vs H1 => r vs H1 Q
theorem pe_callB (hc : CallR X (.builtin id) r) (hg : Gl X x) (hm : X.mg x = none) (hv : bootBuiltins x = some (.builtin id)) (ha : PA X (e :: es) t) (hn : x ≠ "__name__" := by decide) (hdb : (x == ("__debug__" : Str)) = false := by decide)
    (he : starEach (e :: es) X.env = (false, eval e X.env) :: starEach es X.env := by rfl) (hpl : (backTo pos (starEach es X.env)).any (·.1) = false := by rfl) : PE X (.Call (.Name x p) (e :: es) [] pos) (tCB r t) := by
  intro pins s σ H Q I h
  refine wpAny_Call_Name_kw (ld_blt I hg hm hv ?_ hn hdb)
  exact PyProof.Rows.callWith_builtin1 (thn (ha pos pins s σ H _ I h) fun us s1 ⟨vs, H1, I1, r1, q1⟩ => hc pins s1 σ H1 vs us Q I1 r1 q1) he hpl
theorem pe_callTy (hc : CallR X (.type T) r) (hg : Gl X x) (hm : X.mg x = none) (hv : bootBuiltins x = some (.type T)) (ha : PA X (e :: es) t) (hn : x ≠ "__name__" := by decide) (hdb : (x == ("__debug__" : Str)) = false := by decide)
    (he : starEach (e :: es) X.env = (false, eval e X.env) :: starEach es X.env := by rfl) (hpl : (backTo pos (starEach es X.env)).any (·.1) = false := by rfl) : PE X (.Call (.Name x p) (e :: es) [] pos) (tCB r t) := by
  intro pins s σ H Q I h
  refine wpAny_Call_Name_kw (ld_blt I hg hm hv ?_ hn hdb)
  exact PyProof.Rows.callWith_type1 (thn (ha pos pins s σ H _ I h) fun us s1 ⟨vs, H1, I1, r1, q1⟩ => hc pins s1 σ H1 vs us Q I1 r1 q1) he hpl
end
end L2

namespace HT
open PySem PyProof.Rows

section
open PySem.SeqAt
open PySem.AutoSeq1 (wpAny_loadPart')
open PySem.MeetsSeq PySem.MeetsSeq2 PySem.MeetsSeq3

end

section
variable {prog : Program} {w : World} {A : Around} {E : Value → Shared → Prop} {s : Shared}

theorem cat_tup {t b : Addr} {vs ws : List Value} {Q : Value → Shared → Prop} (ht : IsTup s.heap t vs.toArray) (hb : IsTup s.heap b ws.toArray) (hv : vs ≠ [])
    (h1 : ws = [] → Q (.ref t) s) (h2 : ws ≠ [] → Q (.ref s.heap.objs.size) { s with heap := s.heap.push { cls := .type "tuple", data := .seq (vs ++ ws).toArray } })
    (hsz : vs.length + ws.length ≤ sizeLine) : wpAny (model prog w) A (binaryOp .Add (.ref t) (.ref b)) Q E s := by
  obtain ⟨⟨cls, dd, data, sl⟩, ho, hc, n, hd⟩ := id ht
  obtain ⟨⟨cls2, dd2, data2, sl2⟩, ho2, hc2, n2, hd2⟩ := id hb
  simp only at hc hd hc2 hd2
  subst hc hd hc2 hd2
  have e : vs.toArray ++ ws.toArray = (vs ++ ws).toArray := by simp
  by_cases hw : ws = []
  · exact concat_meets ⟨_, ho, rfl⟩ ⟨_, ho2, rfl⟩ noFill_tuple_add seq_tuple_add PySem.F.slot_tuple_add PySem.F.entry_tuple_add (PySem.F.args_tuple_add_2 _ _)
      (tuple_addW1 t b vs.toArray ws.toArray n n2 dd dd2 sl sl2 (by simpa using hv) (by simp [hw])) ⟨ho, ho2, h1 hw⟩
  · refine concat_meets ⟨_, ho, rfl⟩ ⟨_, ho2, rfl⟩ noFill_tuple_add seq_tuple_add PySem.F.slot_tuple_add PySem.F.entry_tuple_add (PySem.F.args_tuple_add_2 _ _)
      (tuple_addW2 t b vs.toArray ws.toArray n n2 dd dd2 sl sl2 (by simpa using hv) (by simpa using hw) (by rw [List.size_toArray, List.size_toArray]; exact hsz)) ⟨ho, ho2, ?_⟩
    rw [e]
    exact h2 hw

/-! ### t[a:b], not the whole -/
def sIx (n d : Nat) : Option Int → Nat
  | none => d
  | some v => if v < 0 then (v + (n : Int)).toNat else min v.toNat n
theorem sIx_nat (n d k : Nat) : sIx n d (some (k : Int)) = min k n := by
  show (if (k : Int) < 0 then ((k : Int) + (n : Int)).toNat else min (k : Int).toNat n) = min k n
  rw [if_neg (by omega), Int.toNat_natCast]
theorem sIx_le (n d : Nat) (hd : d ≤ n) (o : Option Int) : sIx n d o ≤ n := by
  cases o with
  | none => exact hd
  | some v =>
    show (if v < 0 then (v + (n : Int)).toNat else min v.toNat n) ≤ n
    by_cases hv : v < 0
    · rw [if_pos hv]; omega
    · rw [if_neg hv]; exact Nat.min_le_right _ _
theorem clip_eq (v : Int) (n d : Nat) : (if v < 0 then max (v + (n : Int)) 0 else min v (n : Int)) = ((sIx n d (some v) : Nat) : Int) := by
  show (if v < 0 then max (v + (n : Int)) 0 else min v (n : Int)) = (((if v < 0 then (v + (n : Int)).toNat else min v.toNat n) : Nat) : Int)
  by_cases hv : v < 0
  · simp only [if_pos hv]; omega
  · simp only [if_neg hv]; omega
theorem adjust_gen (lo hi : Option Int) (n : Nat) : Builtin.Slice.sliceAdjust lo hi 1 (n : Int) = (((sIx n 0 lo : Nat) : Int), ((sIx n n hi : Nat) : Int)) := by
  have h1 : ¬ ((1 : Int) < 0) := by omega
  unfold Builtin.Slice.sliceAdjust
  simp only [h1, if_false]
  refine Prod.ext ?_ ?_
  · cases lo with
    | none => rfl
    | some v => exact clip_eq v n 0
  · cases hi with
    | none => rfl
    | some v => exact clip_eq v n n
theorem places_gen (i j : Nat) : Builtin.Slice.slicePlaces (i : Int) (j : Int) 1 = j - i := by
  unfold Builtin.Slice.slicePlaces
  have h1 : (1 : Int) > 0 := by omega
  simp only [h1, if_true, Int.ediv_one]
  split <;> omega
theorem slicePart_ {v : Value} {o : Option Int} {Q : Option Int → Shared → Prop} (p : IsPart v o) (h : Q o s) : wpAny (model prog w) A (Builtin.Slice.slicePartIndex v) Q E s := by
  cases p with
  | none => exact slicePart_none h
  | int i t => exact slicePart_int h
theorem sliceApplied_gen {sl : Addr} {vl vu : Value} {lo hi : Option Int} {n : Nat} {Q : Int × Int × Nat → Shared → Prop} (hs : s.heap.IsSliceOf sl vl vu .none) (pl : IsPart vl lo) (pu : IsPart vu hi)
    (h : Q (((sIx n 0 lo : Nat) : Int), 1, sIx n n hi - sIx n 0 lo) s) : wpAny (model prog w) A (Builtin.Slice.sliceApplied (.ref sl) (pure (n : Int))) Q E s := by
  obtain ⟨os, hos, hcs, hds⟩ := id hs
  unfold Builtin.Slice.sliceApplied Builtin.Slice.sliceFields
  refine wpAny_bind (wpAny_bind (wpAny_field hos hds (x := vl) rfl (wpAny_bind (wpAny_field hos hds (x := vu) rfl (wpAny_bind (wpAny_field hos hds (x := .none) rfl (wpAny_pure ?_)))))))
  refine wpAny_bind (slicePart_none ?_)
  show wpAny _ _ (if ((1 : Int) == 0) = true then _ else _) _ _ s
  rw [if_neg (by decide)]
  refine wpAny_bind (slicePart_ pl (wpAny_bind (slicePart_ pu (wpAny_bind (wpAny_pure ?_)))))
  show wpAny _ _ (match Builtin.Slice.sliceAdjust lo hi 1 (n : Int) with | (lo, hi) => pure (lo, (1 : Int), Builtin.Slice.slicePlaces lo hi 1)) _ _ s
  rw [adjust_gen lo hi n]
  show wpAny _ _ (pure (((sIx n 0 lo : Nat) : Int), (1 : Int), Builtin.Slice.slicePlaces ((sIx n 0 lo : Nat) : Int) ((sIx n n hi : Nat) : Int) 1)) _ _ s
  rw [places_gen]
  exact wpAny_pure h
theorem pick_gen (xs : Array Value) (i k : Nat) : ((List.range k).filterMap fun (m : Nat) => xs[((i : Int) + (m : Int) * 1).toNat]?).toArray = ((xs.toList.drop i).take k).toArray := by
  have e : (fun (m : Nat) => xs[((i : Int) + (m : Int) * 1).toNat]?) = fun m => xs[i + m]? := by
    funext m
    have : ((i : Int) + (m : Int) * 1).toNat = i + m := by omega
    rw [this]
  rw [e]
  have := pick_run xs i k
  rw [List.filterMap_map] at this
  have e2 : ((fun x => xs[x]?) ∘ fun x => i + x) = fun m => xs[i + m]? := rfl
  rw [e2] at this
  rw [this]

theorem getItem_tuple_cut {t sl : Addr} {items : Array Value} {vl vu : Value} {lo hi : Option Int} {Q : Value → Shared → Prop} (ht : IsTup s.heap t items) (hs : s.heap.IsSliceOf sl vl vu .none) (pl : IsPart vl lo) (pu : IsPart vu hi)
    (hw : ¬ (sIx items.size 0 lo = 0 ∧ sIx items.size items.size hi = items.size))
    (h : Q (.ref s.heap.objs.size) { s with heap := s.heap.push { cls := .type "tuple", data := .seq ((items.toList.drop (sIx items.size 0 lo)).take (sIx items.size items.size hi - sIx items.size 0 lo)).toArray } })
    (hsz : items.size ≤ sizeLine) : wpAny (model prog w) A (getItem (.ref t) (.ref sl)) Q E s := by
  have htake : sizeOk (.seq ((items.toList.drop (sIx items.size 0 lo)).take (sIx items.size items.size hi - sIx items.size 0 lo)).toArray) := by
    show ((items.toList.drop (sIx items.size 0 lo)).take (sIx items.size items.size hi - sIx items.size 0 lo)).toArray.size ≤ sizeLine
    rw [List.size_toArray, List.length_take, List.length_drop, Array.length_toList]
    omega
  have hj : sIx items.size items.size hi ≤ items.size := sIx_le _ _ (Nat.le_refl _) hi
  obtain ⟨os, hos, hcs, hds⟩ := id hs
  have hTs : s.TypeIs (.ref sl) "slice" := ⟨os, hos, hcs⟩
  unfold getItem
  try with_reducible refine wpAny_holding ?_
  first | refine wpAny_bind (wpAny_pure ?_) | skip
  refine wpAny_bind (wpAny_sequenceKey ht.typeIs (by decide) ?_)
  refine wpAny_bind (wpAny_callSpecial?_slot (name := Str.ofString "__getitem__") ht.typeIs PyProof.Rows.slot_tuple_getitem
    (wpAny_call_entry PyProof.Rows.slot_tuple_getitem ht.typeIs entry_tuple_getitem ?_ (args_tuple_getitem _ _)))
  show wpAny _ _ (Builtin.Tuple.tupleItemsOf (.ref t) >>= _) _ _ s
  refine wpAny_bind (tupleItemsOf_ ht ?_)
  refine wpAny_bind (wpAny_typeOf hTs ?_)
  rw [if_pos (by decide)]
  refine wpAny_bind (sliceApplied_gen hs pl pu ?_)
  have hno : ¬ ((((sIx items.size 0 lo : Nat) : Int) == 0 && (1 : Int) == 1 && (sIx items.size items.size hi - sIx items.size 0 lo) == items.size) = true) := by
    intro q
    rw [Bool.and_eq_true, Bool.and_eq_true] at q
    have q1 : ((sIx items.size 0 lo : Nat) : Int) = 0 := eq_of_beq q.1.1
    have q2 : sIx items.size items.size hi - sIx items.size 0 lo = items.size := eq_of_beq q.2
    exact hw ⟨by omega, by omega⟩
  show wpAny _ _ (if (((sIx items.size 0 lo : Nat) : Int) == 0 && (1 : Int) == 1 && (sIx items.size items.size hi - sIx items.size 0 lo) == items.size) = true then _ else _) _ _ s
  rw [if_neg hno, pick_gen]
  first
    | exact wpAny_bind (m := Builtin.Tuple.tupleExact _) (wpAny_newObj_type (wpAny_pure ⟨_, rfl, wpAny_pure h⟩) htake)
    | exact wpAny_bind (m := Builtin.Tuple.tupleExact _) (wpAny_newObj_type (wpAny_bind (wpAny_pure (wpAny_pure ⟨_, rfl, wpAny_pure h⟩))) htake)
    | exact wpAny_bind (wpAny_bind (m := Builtin.Tuple.tupleExact _) (wpAny_newObj_type (wpAny_pure (wpAny_pure ⟨_, rfl, wpAny_pure h⟩)) htake))
    | exact wpAny_bind (wpAny_bind (m := Builtin.Tuple.tupleExact _) (wpAny_newObj_type (wpAny_pure ⟨_, rfl, wpAny_pure h⟩) htake))
end
end HT

namespace L2
open PySem PySem.Spec PyProof.Rows

/-! ### the parts of a slice -/
abbrev TO := St → Hp → (Option Int → Hp → Prop) → Prop
def PO (X : Cx) (e : Option Expr) (t : TO) : Prop :=
  ∀ (pins : List (Addr × Obj)) (s : Shared) (σ : St) (H : Hp) (Q : Option Int → Hp → Prop), Inv X pins σ H s → t σ H Q →
    wpAny (model X.prog X.w) X.A (evalPart e X.env) (fun u s' => ∃ o H', Inv X pins σ H' s' ∧ IsPart u o ∧ Q o H') X.xe s
def tNoPart : TO := fun _ H Q => Q none H
def tPart (t : TE) : TO := fun σ H Q => t σ H fun x H1 => ∃ i, x = .int i ∧ Q (some i) H1

theorem intsAre_of {ns : List Int} : ∀ {us : List Value}, Vals (ns.map V.int) us → IntsAre us ns := by
  induction ns with
  | nil => intro us r; rw [List.map_nil] at r; cases r; exact .nil
  | cons n ns ih =>
    intro us r
    rw [List.map_cons] at r
    cases r with
    | cons r1 r2 =>
      obtain ⟨t, e⟩ := r1
      subst e
      exact .cons n t (ih r2)

section
variable {X : Cx} {e : Expr} {te : TE} {lo hi : Option Expr} {tl th : TO} {pos p2 : Pos}

theorem po_none : PO X none tNoPart := by
  intro pins s σ H Q I h
  rw [evalPart_none]
  exact wpAny_pure ⟨none, H, I, .none, h⟩
theorem po_some (h : PE X e te) : PO X (some e) (tPart te) := by
  intro pins s σ H Q I hw
  rw [evalPart_some]
  refine thn (h pins s σ H _ I hw) fun u s1 ⟨x, H1, I1, r1, q1⟩ => ?_
  obtain ⟨i, rfl, q⟩ := q1
  obtain ⟨t, rfl⟩ := r1
  exact ⟨some i, H1, I1, .int i t, q⟩

def SlR (X : Cx) (r : V → Option Int → Option Int → Hp → VK → Prop) : Prop :=
  ∀ (pins : List (Addr × Obj)) (s : Shared) (σ : St) (H : Hp) (x : V) (v vl vu : Value) (lo hi : Option Int) (sl : Addr) (Q : VK), Inv X pins σ H s → RelV x v → s.heap.IsSliceOf sl vl vu .none → IsPart vl lo → IsPart vu hi → r x lo hi H Q →
    ∃ T id, typeLookup (.type T) "__getitem__" = pure (some (.builtin id)) ∧ s.TypeIs v T ∧ wpAny (model X.prog X.w) X.A (getItem v (.ref sl)) (EP X pins σ Q) X.xe s
def tSl (r : V → Option Int → Option Int → Hp → VK → Prop) (te : TE) (tl th : TO) : TE := fun σ H Q => te σ H fun x H1 => tl σ H1 fun l H2 => th σ H2 fun u H3 => r x l u H3 Q
theorem pe_slice {r : V → Option Int → Option Int → Hp → VK → Prop} (hr : SlR X r) (he : PE X e te) (hl : PO X lo tl) (hu : PO X hi th) : PE X (.Subscript e (.Slice lo hi none p2) pos) (tSl r te tl th) := by
  intro pins s σ H Q I h
  refine Subscript_ (thn (he pins s σ H _ I h) fun v s1 ⟨x, H1, I1, r1, q1⟩ => ?_)
  refine wpAny_Slice (thn (hl pins s1 σ H1 _ I1 q1) fun vl s2 ⟨l, H2, I2, pl, q2⟩ => thn (hu pins s2 σ H2 _ I2 q2) fun vu s3 ⟨u, H3, I3, pu, q3⟩ => ?_)
  rw [evalPart_none]
  refine wpAny_pure ?_
  have I4 : Inv X pins σ H3 { s3 with heap := s3.heap.push { cls := .type "slice", data := .fields #[vl, vu, .none] } } := I3.kept (t' := s3.toks) fun b ob q => Heap.get?_push_of_some _ q
  obtain ⟨T, id, hT, ht, hg⟩ := hr pins { s3 with heap := s3.heap.push { cls := .type "slice", data := .fields #[vl, vu, .none] } } σ H3 x v vl vu l u s3.heap.objs.size Q I4 r1 (Heap.IsSliceOf.new ..) pl pu q3
  show wpAny (model X.prog X.w) X.A (subscriptTail e (.Slice lo hi none p2) v (.ref s3.heap.objs.size)) (EP X pins σ Q) X.xe { s3 with heap := s3.heap.push { cls := .type "slice", data := .fields #[vl, vu, .none] } }
  exact tail_any (ops := [.ref s3.heap.objs.size, v]) ht hT hg (by with_unfolding_all rfl)

def cutV (xs : List V) (lo hi : Option Int) : List V := (xs.drop (HT.sIx xs.length 0 lo)).take (HT.sIx xs.length xs.length hi - HT.sIx xs.length 0 lo)
theorem cutV_length (xs : List V) (lo hi : Option Int) : (cutV xs lo hi).length ≤ xs.length := by
  unfold cutV
  rw [List.length_take, List.length_drop]
  omega
def rSlT (K : PySem.W.Frag) : V → Option Int → Option Int → Hp → VK → Prop := fun x lo hi H Q => ∃ a xs, x = .ref a ∧ SqT K H a xs ∧
  ¬ (HT.sIx xs.length 0 lo = 0 ∧ HT.sIx xs.length xs.length hi = xs.length) ∧ ∀ p, H p = none → Q (.ref p) (upd H p (.tup (cutV xs lo hi)))
theorem sl_tup : SlR X (rSlT X.K) := by
  intro pins s σ H x v vl vu lo hi sl Q I rx hs pl pu h
  obtain ⟨a, xs, rfl, hx, hw, q⟩ := h
  cases rx
  obtain ⟨its, r, ht, hz⟩ := I.tuple hx
  have hlen : its.toArray.size = xs.length := by rw [List.size_toArray]; exact r.length.symm
  refine ⟨"tuple", _, PyProof.Rows.slot_tuple_getitem.lookup, ht.typeIs, ?_⟩
  refine HT.getItem_tuple_cut ht hs pl pu (by rw [hlen]; exact hw) ?_ (by rw [hlen]; exact hz)
  rw [hlen]
  refine ⟨.ref s.heap.objs.size, _, I.laid (t' := s.toks) (o := .tup (cutV xs lo hi)) (fun b ob q => Heap.get?_push_of_some _ q) (Nat.le_refl _) ?_, rfl, q _ (I.hok.fresh (Nat.le_refl _))⟩
  exact ⟨Nat.le_trans (cutV_length xs lo hi) hz, _, (r.drop (HT.sIx xs.length 0 lo)).take (HT.sIx xs.length xs.length hi - HT.sIx xs.length 0 lo), IsTup.new _ _⟩

/-! ### t < u, t + u -/
def rCatT (K : PySem.W.Frag) : R2 := fun x y H Q => ∃ a b xs ys, x = .ref a ∧ y = .ref b ∧ SqT K H a xs ∧ SqT K H b ys ∧ xs ≠ [] ∧ xs.length + ys.length ≤ sizeLine ∧
  (ys = [] → Q (.ref a) H) ∧ (ys ≠ [] → ∀ p, H p = none → Q (.ref p) (upd H p (.tup (xs ++ ys))))
theorem Vals.nil_iff {xs : List V} {us : List Value} (r : Vals xs us) : us = [] ↔ xs = [] := by
  cases r with
  | nil => simp
  | cons _ _ => simp
theorem op_catT : OpR X (binaryOp .Add) (rCatT X.K) := by
  intro pins s σ H x y v u Q I rx ry h
  obtain ⟨a, b, xs, ys, rfl, rfl, ha, hb, hx, hz, q1, q2⟩ := h
  cases rx
  cases ry
  obtain ⟨its, r1, p1, _⟩ := I.tuple ha
  obtain ⟨its2, r2, p2, _⟩ := I.tuple hb
  refine HT.cat_tup p1 p2 (fun z => hx (r1.nil_iff.mp z)) (fun z => ⟨.ref a, H, I, rfl, q1 (r2.nil_iff.mp z)⟩) (fun z => ?_) (by rw [← r1.length, ← r2.length]; exact hz)
  refine ⟨.ref s.heap.objs.size, _, I.laid (t' := s.toks) (o := .tup (xs ++ ys)) (fun b ob q => Heap.get?_push_of_some _ q) (Nat.le_refl _) ?_, rfl, q2 (fun w => z (r2.nil_iff.mpr w)) _ (I.hok.fresh (Nat.le_refl _))⟩
  exact ⟨by rw [List.length_append]; exact hz, _, r1.append r2, IsTup.new _ _⟩
end
end L2

namespace L2
open PySem PySem.Spec PyProof.Rows

/-! ### places -/
def ixN (n : Nat) (i : Int) : Option Nat := if 0 ≤ i then (if i < n then some i.toNat else none) else if -(n : Int) ≤ i then some (i + n).toNat else none
def atI {α : Type} (xs : List α) (i : Int) : Option α := (ixN xs.length i).bind fun j => xs[j]?
theorem ixN_seq {n : Nat} {i : Int} {j : Nat} (h : ixN n i = some j) : seqIndex? i n = some j ∧ j < n ∧ -(n : Int) ≤ i ∧ i < n := by
  unfold ixN at h
  by_cases h0 : 0 ≤ i
  · rw [if_pos h0] at h
    by_cases h1 : i < n
    · rw [if_pos h1] at h
      have e : i.toNat = j := Option.some.inj h
      exact ⟨by rw [seqIndex_of h0 h1, e], by omega, by omega, h1⟩
    · rw [if_neg h1] at h; cases h
  · rw [if_neg h0] at h
    by_cases h1 : -(n : Int) ≤ i
    · rw [if_pos h1] at h
      have e : (i + n).toNat = j := Option.some.inj h
      exact ⟨by rw [seqIndex_neg (by omega) h1, e], by omega, h1, by omega⟩
    · rw [if_neg h1] at h; cases h
theorem atI_get {α : Type} {xs : List α} {i : Int} {v : α} (h : atI xs i = some v) : ∃ j, seqIndex? i xs.length = some j ∧ xs[j]? = some v ∧ j < xs.length ∧ -(xs.length : Int) ≤ i ∧ i < xs.length := by
  unfold atI at h
  cases e : ixN xs.length i with
  | none => rw [e] at h; cases h
  | some j =>
    rw [e] at h
    obtain ⟨h1, h2, h3, h4⟩ := ixN_seq e
    exact ⟨j, h1, h, h2, h3, h4⟩
theorem atI_nat {α : Type} {xs : List α} {j : Nat} {v : α} (h : xs[j]? = some v) : atI xs (j : Int) = some v := by
  have hj : j < xs.length := (List.getElem?_eq_some_iff.mp h).1
  have e : ixN xs.length (j : Int) = some j := by
    unfold ixN
    rw [if_pos (by omega), if_pos (by omega)]; simp
  unfold atI; rw [e]; exact h
/-! ### what may be subscripted -/
def PlainIx (b : Expr) : Prop := ∀ o i, subscripted b false o i = operate [o, i] (getItem o i)
def IxR (X : Cx) (r : R2) : Prop :=
  ∀ (value slice : Expr) (pins : List (Addr × Obj)) (s : Shared) (σ : St) (H : Hp) (x y : V) (v u : Value) (Q : VK), Inv X pins σ H s → RelV x v → RelV y u → r x y H Q →
    subscripted slice false v u = operate [v, u] (getItem v u) → wpAny (model X.prog X.w) X.A (subscriptTail value slice v u) (EP X pins σ Q) X.xe s
def MtR (X : Cx) (id : String) (r : V → List V → Hp → VK → Prop) : Prop :=
  ∀ (pins : List (Addr × Obj)) (s : Shared) (σ : St) (H : Hp) (x : V) (xs : List V) (v : Value) (us : List Value) (Q : VK), Inv X pins σ H s → RelV x v → Vals xs us → r x xs H Q →
    wpAny (model X.prog X.w) X.A (call (.builtin id) (v :: us)) (EP X pins σ Q) X.xe s
section
variable {X : Cx} {a b : Expr} {ta tb : TE} {pos : Pos}
theorem pe_ix {r : R2} (hr : IxR X r) (ha : PE X a ta) (hb : PE X b tb) (hs : PlainIx b) : PE X (.Subscript a b pos) (tOp r ta tb) := by
  intro pins s σ H Q I h
  exact Subscript_ (binT ha hb I h fun v u s2 x y H2 I2 rx ry q => hr a b pins s2 σ H2 x y v u Q I2 rx ry q (hs _ _))

def rIxL (K : PySem.W.Frag) : R2 := fun x y H Q => ∃ p xs i v, x = .ref p ∧ y = .int i ∧ SqL K H p xs ∧ atI xs i = some v ∧ Q v H
def rIxT (K : PySem.W.Frag) : R2 := fun x y H Q => ∃ p xs i v, x = .ref p ∧ y = .int i ∧ SqT K H p xs ∧ atI xs i = some v ∧ Q v H
theorem ix_list : IxR X (rIxL X.K) := by
  intro value slice pins s σ H x y v u Q I rx ry h hs
  obtain ⟨p, xs, i, z, rfl, rfl, hq, he, q⟩ := h
  cases rx
  obtain ⟨t, rfl⟩ := ry
  obtain ⟨its, r, pl, hz⟩ := I.list hq
  obtain ⟨j, h1, h2, h3, h4, h5⟩ := atI_get he
  obtain ⟨w, ew, rw'⟩ := r.get h2
  have hl := r.length
  have hn := line63
  have fin : EP X pins σ Q w s := ⟨z, H, I, rw', q⟩
  by_cases h0 : 0 ≤ i
  · have hj : i.toNat = j := by
      rw [seqIndex_of h0 h5] at h1
      exact Option.some.inj h1
    exact item_listR pl.isList h0 (by omega) (by rw [hj]; simpa using ew) fin hs
  · have hj : (i + (its.toArray.size : Int)).toNat = j := by
      rw [seqIndex_neg (by omega) h4] at h1
      rw [List.size_toArray, ← hl]
      exact Option.some.inj h1
    exact subscriptTail_builtinR (x := w) pl.isList.typeIs slot_list_getitem.lookup
      (wpAny_getItem_list_neg (Q := fun r s' => r = w ∧ EP X pins σ Q r s') pl.isList (by omega) (by rw [List.size_toArray] <;> omega) (by omega) (by rw [hj]; simpa using ew) ⟨rfl, fin⟩) hs
theorem ix_tup : IxR X (rIxT X.K) := by
  intro value slice pins s σ H x y v u Q I rx ry h hs
  obtain ⟨p, xs, i, z, rfl, rfl, hq, he, q⟩ := h
  cases rx
  obtain ⟨t, rfl⟩ := ry
  obtain ⟨its, r, pl, hz⟩ := I.tuple hq
  obtain ⟨j, h1, h2, h3, h4, h5⟩ := atI_get he
  obtain ⟨w, ew, rw'⟩ := r.get h2
  have hl := r.length
  have hn := line63
  have fin : EP X pins σ Q w s := ⟨z, H, I, rw', q⟩
  exact subscriptTail_builtinR (x := w) pl.typeIs slot_tuple_getitem.lookup
    (getItem_tuple (j := j) (Q := fun r s' => r = w ∧ EP X pins σ Q r s') pl (by omega) (by omega) (by rw [List.size_toArray, ← hl]; exact h1) (by simpa using ew) ⟨rfl, fin⟩) hs
/-! ### xs[i] = v, any sign -/
/-! ### slices -/
theorem slice_bounds (lo hi : Option Int) (n : Nat) : (sliceBounds lo hi none n).1 = ((HT.sIx n 0 lo : Nat) : Int) ∧ (sliceBounds lo hi none n).2.1 = ((HT.sIx n n hi : Nat) : Int) ∧ (sliceBounds lo hi none n).2.2 = 1 := by
  refine ⟨?_, ?_, rfl⟩
  · cases lo with
    | none => simp [sliceBounds, HT.sIx]
    | some i =>
      simp only [sliceBounds, HT.sIx, Option.getD_none, show (1 : Int) > 0 by decide, if_true]
      by_cases h : i < 0
      · simp only [h, if_true] <;> omega
      · simp only [h, if_false] <;> omega
  · cases hi with
    | none => simp [sliceBounds, HT.sIx]
    | some i =>
      simp only [sliceBounds, HT.sIx, Option.getD_none, show (1 : Int) > 0 by decide, if_true]
      by_cases h : i < 0
      · simp only [h, if_true] <;> omega
      · simp only [h, if_false] <;> omega
theorem slicePick_cut (its : List Value) (lo hi : Option Int) : slicePick its.toArray lo hi none = ((its.drop (HT.sIx its.length 0 lo)).take (HT.sIx its.length its.length hi - HT.sIx its.length 0 lo)).toArray := by
  obtain ⟨h1, h2, h3⟩ := slice_bounds lo hi its.toArray.size
  unfold slicePick
  rw [h1, h2, h3]
  simp only [sliceRange_one, pick_run, List.size_toArray] <;> rfl
def rSlL (K : PySem.W.Frag) : V → Option Int → Option Int → Hp → VK → Prop := fun x lo hi H Q => ∃ a xs, x = .ref a ∧ SqL K H a xs ∧ ∀ p, H p = none → Q (.ref p) (upd H p (.lst (cutV xs lo hi)))
theorem sl_list : SlR X (rSlL X.K) := by
  intro pins s σ H x v vl vu lo hi sl Q I rx hs pl pu h
  obtain ⟨a, xs, rfl, hx, q⟩ := h
  cases rx
  obtain ⟨its, r, ht, hz⟩ := I.list hx
  have hlen := r.length
  refine ⟨"list", _, slot_list_getitem.lookup, ht.isList.typeIs, ?_⟩
  refine wpAny_getItem_list_slice ht.isList hs pl pu .none (by simp) ?_ (by rw [List.size_toArray] <;> omega)
  rw [slicePick_cut, ← hlen]
  refine ⟨.ref s.heap.objs.size, _, I.laid (t' := s.toks) (o := .lst (cutV xs lo hi)) (fun b ob q => Heap.get?_push_of_some _ q) (Nat.le_refl _) ?_, rfl, q _ (I.hok.fresh (Nat.le_refl _))⟩
  exact ⟨Nat.le_trans (cutV_length xs lo hi) hz, _, 0, (r.drop (HT.sIx xs.length 0 lo)).take (HT.sIx xs.length xs.length hi - HT.sIx xs.length 0 lo), Heap.get?_push_size _ rfl⟩

/-! ### in, not in: flat items -/
def flatV : V → Bool
  | .non => true
  | .bl _ => true
  | .int _ => true
  | .str _ => true
  | _ => false
def eqV : V → V → Bool
  | .non, .non => true
  | .bl a, .bl b => a == b
  | .bl a, .int b => (if a then 1 else 0) == b
  | .int a, .bl b => a == (if b then 1 else 0)
  | .int a, .int b => a == b
  | .str a, .str b => a == b
  | _, _ => false
theorem eqAt_V {A : Around} {s : Shared} {y x : V} {u v : Value} (ry : RelV y u) (rx : RelV x v) (fy : flatV y = true) (fx : flatV x = true) : SeqAt.EqAt A s u v (eqV y x) := by
  cases y with
  | non =>
    cases ry
    cases x with
    | non => cases rx; exact SeqAt.EqAt.same _
    | bl b => cases rx; exact SeqAt.EqAt.none_bool b
    | int b => obtain ⟨t, rfl⟩ := rx; exact SeqAt.EqAt.none_int b t
    | str b => obtain ⟨t, rfl⟩ := rx; exact SeqAt.EqAt.none_str b t
    | _ => exact absurd (show false = true from fx) Bool.false_ne_true
  | bl a =>
    cases ry
    cases x with
    | non => cases rx; exact SeqAt.EqAt.bool_none a
    | bl b => cases rx; exact SeqAt.EqAt.bool_bool a b
    | int b => obtain ⟨t, rfl⟩ := rx; exact SeqAt.EqAt.bool_int a b t
    | str b => obtain ⟨t, rfl⟩ := rx; exact SeqAt.EqAt.bool_str a b t
    | _ => exact absurd (show false = true from fx) Bool.false_ne_true
  | int a =>
    obtain ⟨t', rfl⟩ := ry
    cases x with
    | non => cases rx; exact SeqAt.EqAt.int_none a t'
    | bl b => cases rx; exact SeqAt.EqAt.int_bool a t' b
    | int b => obtain ⟨t, rfl⟩ := rx; exact SeqAt.EqAt.int_int a t' b t
    | str b => obtain ⟨t, rfl⟩ := rx; exact SeqAt.EqAt.int_str a t' b t
    | _ => exact absurd (show false = true from fx) Bool.false_ne_true
  | str a =>
    obtain ⟨t', rfl⟩ := ry
    cases x with
    | non => cases rx; exact SeqAt.EqAt.str_none a t'
    | bl b => cases rx; exact SeqAt.EqAt.str_bool a t' b
    | int b => obtain ⟨t, rfl⟩ := rx; exact SeqAt.EqAt.str_int a t' b t
    | str b => obtain ⟨t, rfl⟩ := rx; exact SeqAt.EqAt.str_str a t' b t
    | _ => exact absurd (show false = true from fx) Bool.false_ne_true
  | _ => exact absurd (show false = true from fy) Bool.false_ne_true
def eqU (x : V) (u : Value) : Bool := match u with
  | .none => eqV .non x
  | .bool b => eqV (.bl b) x
  | .int i _ => eqV (.int i) x
  | .str z _ => eqV (.str z) x
  | _ => false
theorem eqU_of {x y : V} {u : Value} (r : RelV y u) (f : flatV y = true) : eqU x u = eqV y x := by
  cases y with
  | non => cases r; rfl
  | bl b => cases r; rfl
  | int i => obtain ⟨t, rfl⟩ := r; rfl
  | str z => obtain ⟨t, rfl⟩ := r; rfl
  | _ => exact absurd (show false = true from f) Bool.false_ne_true
theorem any_eqU {x : V} : ∀ {xs : List V} {us : List Value}, Vals xs us → xs.all flatV = true → us.any (eqU x) = xs.any fun y => eqV y x
  | _, _, .nil, _ => rfl
  | y :: xs, u :: us, .cons r t, f => by
    rw [List.all_cons, Bool.and_eq_true] at f
    rw [List.any_cons, List.any_cons, eqU_of r f.1, any_eqU t f.2]
theorem mem_eqAt {A : Around} {s : Shared} {x : V} {v : Value} (rx : RelV x v) (fx : flatV x = true) : ∀ {xs : List V} {us : List Value}, Vals xs us → xs.all flatV = true → ∀ u ∈ us, SeqAt.EqAt A s u v (eqU x u)
  | _, _, .nil, _ => fun u hu => by cases hu
  | y :: xs, u :: us, .cons r t, f => fun u' hu => by
    rw [List.all_cons, Bool.and_eq_true] at f
    rcases List.mem_cons.mp hu with rfl | hu
    · rw [eqU_of r f.1]; exact eqAt_V r rx f.1 fx
    · exact mem_eqAt rx fx t f.2 u' hu
def inV (x : V) (xs : List V) : Bool := xs.any fun y => eqV y x
def rIn (K : PySem.W.Frag) (neg : Bool) : R2 := fun x y H Q => ∃ p xs, y = .ref p ∧ (SqL K H p xs ∨ SqT K H p xs) ∧ flatV x = true ∧ xs.all flatV = true ∧ Q (.bl (if neg then !inV x xs else inV x xs)) H
theorem op_in_seq : OpR X (compareOp .In) (rIn X.K false) := by
  intro pins s σ H x y v u Q I rx ry h
  obtain ⟨p, xs, rfl, hq, fx, fs, q⟩ := h
  cases ry
  rcases hq with hq | hq
  · obtain ⟨its, r, pl, hz⟩ := I.list hq
    refine SeqAt.in_listAt (eqU x) pl.isList (fun w hw => mem_eqAt rx fx r fs w (by simpa using hw)) ⟨.bl _, H, I, rfl, ?_⟩
    rw [show its.toArray.any (eqU x) = its.any (eqU x) by simp, any_eqU r fs]
    exact q
  · obtain ⟨its, r, pl, hz⟩ := I.tuple hq
    refine SeqAt.in_tupleAt (eqU x) pl (fun w hw => mem_eqAt rx fx r fs w (by simpa using hw)) ⟨.bl _, H, I, rfl, ?_⟩
    rw [show its.toArray.any (eqU x) = its.any (eqU x) by simp, any_eqU r fs]
    exact q
/-! ### len, list(x), tuple(x) of any list or tuple that is read -/
theorem call_len_seq : CallR X (.builtin "len") (fun xs H Q => ∃ p ys, xs = [.ref p] ∧ (SqL X.K H p ys ∨ SqT X.K H p ys) ∧ Q (.int ys.length) H) := by
  intro pins s σ H xs us Q I r h
  obtain ⟨p, ys, rfl, hq, q⟩ := h
  obtain ⟨u, rfl, rx⟩ := vals1 r
  cases rx
  have hn := line63
  rcases hq with hq | hq
  · obtain ⟨its, r', pl, hz⟩ := I.list hq
    have hlen := r'.length
    exact Calls.call_len_list pl.isList (by simp only [List.size_toArray] <;> omega) ⟨.int ys.length, H, I.tok _, ⟨s.toks + 1, by rw [List.size_toArray, hlen]⟩, q⟩
  · obtain ⟨its, r', pl, hz⟩ := I.tuple hq
    have hlen := r'.length
    exact len_tuple pl (by simp only [List.size_toArray] <;> omega) ⟨.int ys.length, H, I.tok _, ⟨s.toks + 1, by rw [List.size_toArray, hlen]⟩, q⟩
theorem call_list_of : CallR X (.type "list") (fun xs H Q => ∃ p ys, xs = [.ref p] ∧ (SqL X.K H p ys ∨ SqT X.K H p ys) ∧ ∀ l, H l = none → Q (.ref l) (upd H l (.lst ys))) := by
  intro pins s σ H xs us Q I r h
  obtain ⟨p, ys, rfl, hq, q⟩ := h
  obtain ⟨u, rfl, rx⟩ := vals1 r
  cases rx
  have fin : ∀ (its : List Value), Vals ys its → ys.length ≤ sizeLine → ∀ (h' : Heap) (c' : Nat), (∀ b o', s.heap.get? b = some o' → h'.get? b = some o') →
      h'.get? s.heap.objs.size = some { cls := .type "list", dict := none, data := .seq its.toArray c', slots := #[] } → EP X pins σ Q (.ref s.heap.objs.size) { s with heap := h' } := fun its r' hz h' c' kp e =>
    ⟨.ref s.heap.objs.size, _, I.laid (t' := s.toks) kp (Nat.le_refl _) (show ObjOk X.prog X.w _ h' _ (.lst ys) from ⟨hz, its, c', r', e⟩), rfl, q _ (I.hok.fresh (Nat.le_refl _))⟩
  rcases hq with hq | hq
  · obtain ⟨its, r', pl, hz⟩ := I.list hq
    have hlen := r'.length
    obtain ⟨o, ho, hc, n, hd⟩ := pl.isList
    exact call_list_seq p (.inl rfl) ho hc hd (fun h' c' kp e => fin its r' hz h' c' kp e) (by simp only [List.size_toArray] <;> omega)
  · obtain ⟨its, r', pl, hz⟩ := I.tuple hq
    have hlen := r'.length
    obtain ⟨o, ho, hc, n, hd⟩ := pl
    exact call_list_seq p (.inr rfl) ho hc hd (fun h' c' kp e => fin its r' hz h' c' kp e) (by simp only [List.size_toArray] <;> omega)
theorem call_tuple_of : CallR X (.type "tuple") (fun xs H Q => ∃ p ys, xs = [.ref p] ∧ ((SqL X.K H p ys ∧ ∀ l, H l = none → Q (.ref l) (upd H l (.tup ys))) ∨ (SqT X.K H p ys ∧ Q (.ref p) H))) := by
  intro pins s σ H xs us Q I r h
  obtain ⟨p, ys, rfl, h⟩ := h
  obtain ⟨u, rfl, rx⟩ := vals1 r
  cases rx
  rcases h with ⟨hq, q⟩ | ⟨hq, q⟩
  · obtain ⟨its, r', pl, hz⟩ := I.list hq
    have hlen := r'.length
    refine call_tuple_list pl.isList (fun h' kp => ?_) (by simp only [List.size_toArray] <;> omega)
    have I1 : Inv X pins σ H { s with heap := h' } := I.kept (t' := s.toks) kp
    have I2 : Inv X pins σ (upd H h'.objs.size (.tup ys)) { s with heap := h'.push { cls := .type "tuple", data := .seq its.toArray } } :=
      I1.laid (t' := s.toks) (fun b o e => Heap.get?_push_of_some _ e) (Nat.le_refl _) (show ObjOk X.prog X.w _ _ _ (.tup ys) from ⟨hz, its, r', IsTup.new _ _⟩)
    exact ⟨.ref h'.objs.size, _, I2, rfl, q _ (I1.hok.fresh (Nat.le_refl _))⟩
  · obtain ⟨its, r', pl, hz⟩ := I.tuple hq
    exact call_tuple_same pl ⟨.ref p, H, I, rfl, q⟩

/-! ### the call of a builtin's method: o.m(..) -/
def tyV (K : PySem.W.Frag) (T : String) (x : V) (H : Hp) : Prop := match x with
  | .str _ => T = "str"
  | .int _ => T = "int"
  | .ref p => (T = "list" ∧ ∃ xs, SqL K H p xs) ∨ (T = "tuple" ∧ ∃ o, K.lookup p = some o ∧ o.cls = .type "tuple" ∧ o.dict = none) ∨
      (T = "dict" ∧ ((∃ kvs, H p = some (.dK kvs)) ∨ ∃ kvs, H p = some (.dT kvs))) ∨ (T = "set" ∧ ∃ S n, H p = some (.set S n))
  | _ => False
theorem tyV_is {pins : List (Addr × Obj)} {σ : St} {H : Hp} {s : Shared} {T : String} {x : V} {v : Value} (I : Inv X pins σ H s) (r : RelV x v) (ty : tyV X.K T x H) :
    s.TypeIs v T ∧ ∀ a, v = .ref a → ∃ ob, s.heap.get? a = some ob ∧ ob.dict = none := by
  cases x with
  | str z =>
    obtain ⟨t, rfl⟩ := r
    cases (show T = "str" from ty)
    exact ⟨typeIs_str s z t, fun _ e => nomatch e⟩
  | int i =>
    obtain ⟨t, rfl⟩ := r
    cases (show T = "int" from ty)
    exact ⟨typeIs_int s i t, fun _ e => nomatch e⟩
  | ref p =>
    cases r
    rcases ty with ⟨rfl, xs, hq⟩ | ⟨rfl, o, hk, hc, hd⟩ | ⟨rfl, hk⟩ | ⟨rfl, S, n, hk⟩
    · obtain ⟨its, _, pl, _⟩ := I.list hq
      refine ⟨pl.isList.typeIs, fun a e => ?_⟩
      cases e
      obtain ⟨o, n, e, c, hd, _⟩ := pl
      exact ⟨o, e, hd⟩
    · refine ⟨⟨o, I.kIn p o hk, hc⟩, fun a e => ?_⟩
      cases e
      exact ⟨o, I.kIn _ o hk, hd⟩
    · have z : ∃ o, s.heap.get? p = some o ∧ o.ExactDict := by
        rcases hk with ⟨kvs, hk⟩ | ⟨kvs, hk⟩
        · obtain ⟨_, _, _, _, o, _, _, e, ex, _⟩ := I.hok p _ hk
          exact ⟨o, e, ex⟩
        · obtain ⟨_, _, _, _, o, _, _, e, ex, _⟩ := I.hok p _ hk
          exact ⟨o, e, ex⟩
      obtain ⟨o, e, ex⟩ := z
      refine ⟨⟨o, e, ex.1⟩, fun a e2 => ?_⟩
      cases e2
      exact ⟨o, e, ex.2.1⟩
    · obtain ⟨o, _, _, _, e, ex, _⟩ := I.hok p _ hk
      refine ⟨⟨o, e, ex.1⟩, fun a e2 => ?_⟩
      cases e2
      exact ⟨o, e, ex.2.1⟩
  | _ => exact False.elim ty
def tBM0 (K : PySem.W.Frag) (T : String) (r : V → List V → Hp → VK → Prop) (to : TE) : TE := fun σ H Q => to σ H fun x H1 => tyV K T x H1 ∧ r x [] H1 Q
variable {o e : Expr} {es : List Expr} {to : TE} {t : TA} {name : Str} {apos cpos : Pos} {T id : String} {r : V → List V → Hp → VK → Prop}
theorem pe_bm0 (pa : PlainAttrs T) (slot : Slot T name id) (hty : typeOf (.builtin id) = pure (.type "method_descriptor")) (hm : MtR X id r) (ho : PE X o to)
    (hbase : attributeBase o name X.env (eval o X.env) = eval o X.env := by rfl) (hline : (apos.endLine == cpos.line) = true := by rfl) : PE X (.Call (.Attribute o name apos) [] [] cpos) (tBM0 X.K T r to) := by
  intro pins s σ H Q I h
  refine wpAny_Call_method0_late hbase hline (thn (ho pins s σ H _ I h) fun v s1 ⟨x, H1, I1, r1, ty, q1⟩ => ?_)
  obtain ⟨h1, h2⟩ := tyV_is I1 r1 ty
  exact ⟨T, id, pa, slot, hty, h1, h2, Calls.callWith_builtin rfl (PySem.evalArgs_none (hm pins s1 σ H1 x [] v [] Q I1 r1 .nil q1))⟩
end
end L2

namespace L2
open PySem PySem.Spec PyProof.Rows

def MtM (X : Cx) (id : String) (r : V → List V → Hp → VK → Prop) : Prop :=
  ∀ (pins : List (Addr × Obj)) (s : Shared) (σ : St) (H : Hp) (x : V) (xs : List V) (v : Value) (us : List Value) (Q : VK), Inv X pins σ H s → RelV x v → Vals xs us → r x xs H Q →
    wpAny (model X.prog X.w) X.A (call (.builtin id) (v :: us)) (EP X pins σ Q) X.xe s

/-! ### lists of values -/
theorem Vals.one {x : V} {us : List Value} (h : Vals [x] us) : ∃ u, us = [u] ∧ RelV x u := by
  cases h with
  | cons r t => cases t; exact ⟨_, rfl, r⟩
theorem Vals.two {x y : V} {us : List Value} (h : Vals [x, y] us) : ∃ u v, us = [u, v] ∧ RelV x u ∧ RelV y v := by
  cases h with
  | cons r t => cases t with
    | cons q t => cases t; exact ⟨_, _, rfl, r, q⟩
section
variable {X : Cx} {pins : List (Addr × Obj)} {σ : St} {H : Hp} {s : Shared} {l b : Addr} {xs ys zs : List V}

/-! ### the two steps: a tracked list is rewritten, a new list is laid -/
theorem Inv.lset {its its' : List Value} {n : Nat} {f : Array Value → Array Value} {t' : Nat} (I : Inv X pins σ H s) (hH : H l = some (.lst xs))
    (e : s.heap.get? l = some { cls := .type "list", data := .seq its.toArray n }) (hf : f its.toArray = its'.toArray) (hv : Vals ys its') (hz : ys.length ≤ sizeLine) :
    Inv X pins σ (upd H l (.lst ys)) { s with heap := s.heap.update l (Obj.mapSeq f), toks := t' } := by
  have q := PySem.IsL.update e f
  rw [hf] at q
  refine I.write (x := l) (e := l) (by rw [hH]; exact trivial) (.inl rfl) (fun b' u hb hu => (Heap.get?_update_other s.heap (Obj.mapSeq f) (Ne.symm hb)).trans hu) ⟨_, q⟩ ?_
  exact ⟨hz, its', _, hv, q⟩
theorem Inv.lnew {its : List Value} {t' : Nat} (I : Inv X pins σ H s) (hv : Vals ys its) (hz : ys.length ≤ sizeLine) :
    Inv X pins σ (upd H s.heap.objs.size (.lst ys)) { s with heap := s.heap.push { cls := .type "list", data := .seq its.toArray }, toks := t' } :=
  I.laid (fun _ _ q => Heap.get?_push_of_some _ q) (Nat.le_refl _) ⟨hz, its, 0, hv, Heap.get?_push_size _ rfl⟩
theorem Inv.fresh (I : Inv X pins σ H s) : H s.heap.objs.size = none := I.hok.fresh (Nat.le_refl _)
theorem Inv.lstM (I : Inv X pins σ H s) (hH : H l = some (.lst xs)) : xs.length ≤ sizeLine ∧ ∃ (its : List Value) (n : Nat), Vals xs its ∧ xs.length = its.length ∧ s.heap.get? l = some { cls := .type "list", data := .seq its.toArray n } := by
  obtain ⟨z, its, n, r, e⟩ := I.hok l _ hH
  exact ⟨z, its, n, r, r.length, e⟩

theorem notLongL {n : Nat} (h : n ≤ sizeLine) : Builtin.List.listTooLong n = false := by
  unfold Builtin.List.listTooLong
  exact decide_eq_false (by omega)
end

section
variable {X : Cx}

/-! ### methods -/
def rAppend : V → List V → Hp → VK → Prop := fun x vs H Q => ∃ l xs y, x = .ref l ∧ vs = [y] ∧ H l = some (.lst xs) ∧ xs.length < sizeLine ∧ Q .non (upd H l (.lst (xs ++ [y])))
theorem mt_append : MtM X "list.append" rAppend := by
  intro pins s σ H x vs v us Q I rx rv h
  obtain ⟨l, xs, y, rfl, rfl, hH, hz, q⟩ := h
  cases rx
  obtain ⟨u, rfl, ru⟩ := rv.one
  obtain ⟨z, its, n, r, hl, e⟩ := I.lstM hH
  refine call_meets F.slot_list_append ⟨_, e, rfl⟩ F.entry_list_append (F.args_list_append_2 _ _) (PySem.list_append l its.toArray n u (by rw [List.size_toArray]; omega)) ⟨e, ?_⟩
  refine ⟨.non, _, I.lset (its' := its ++ [u]) hH e (by simp) (r.append (.cons ru .nil)) ?_, rfl, q⟩
  rw [List.length_append, List.length_singleton]
  omega

def rExtend : V → List V → Hp → VK → Prop := fun x vs H Q => ∃ l b xs zs, x = .ref l ∧ vs = [.ref b] ∧ H l = some (.lst xs) ∧ H b = some (.lst zs) ∧ xs.length + zs.length ≤ sizeLine ∧ Q .non (upd H l (.lst (xs ++ zs)))
theorem mt_extend : MtM X "list.extend" rExtend := by
  intro pins s σ H x vs v us Q I rx rv h
  obtain ⟨l, b, xs, zs, rfl, rfl, hH, hB, hz, q⟩ := h
  cases rx
  obtain ⟨u, rfl, ru⟩ := rv.one
  cases ru
  obtain ⟨z, its, n, r, hl, e⟩ := I.lstM hH
  obtain ⟨z2, its2, n2, r2, hl2, e2⟩ := I.lstM hB
  have hsz : its.toArray.size + its2.toArray.size ≤ sizeLine := by rw [List.size_toArray, List.size_toArray]; omega
  have hlong : ¬ (!its.toArray.isEmpty && Builtin.List.listTooLong (its.toArray.size + its2.toArray.size)) = true := by
    rw [notLongL hsz, Bool.and_false]
    exact Bool.false_ne_true
  refine call_meets F.slot_list_extend ⟨_, e, rfl⟩ F.entry_list_extend (F.args_list_extend_2 _ _)
    (AutoSeq1.list_extend_list_list_0 l its.toArray n b its2.toArray n2 hlong (by rw [List.size_toArray]; omega) (by omega)) ⟨e, e2, ?_⟩
  refine ⟨.non, _, I.lset (its' := its ++ its2) hH e (by simp) (r.append r2) ?_, rfl, q⟩
  rw [List.length_append]
  omega

/-! ### list + list, list += list, list * int -/
def rCat : R2 := fun x y H Q => ∃ l b xs zs, x = .ref l ∧ y = .ref b ∧ H l = some (.lst xs) ∧ H b = some (.lst zs) ∧ xs.length + zs.length ≤ sizeLine ∧ ∀ p, H p = none → Q (.ref p) (upd H p (.lst (xs ++ zs)))
theorem op_cat : OpR X (binaryOp .Add) rCat := by
  intro pins s σ H x y v u Q I rx ry h
  obtain ⟨l, b, xs, zs, rfl, rfl, hH, hB, hz, q⟩ := h
  cases rx
  cases ry
  obtain ⟨z, its, n, r, hl, e⟩ := I.lstM hH
  obtain ⟨z2, its2, n2, r2, hl2, e2⟩ := I.lstM hB
  refine PySem.P.add_list e e2 ?_ (by rw [List.size_toArray, List.size_toArray]; omega)
  have ea : its.toArray ++ its2.toArray = (its ++ its2).toArray := by simp
  rw [ea]
  exact ⟨.ref _, _, I.lnew (t' := s.toks) (r.append r2) (by rw [List.length_append]; omega), rfl, q _ I.fresh⟩
/-! ### del xs[i] -/
end

/-! ### xs[a:b] = ys -/
section
variable {prog : Program} {w : World} {A : Around} {E : Value → Shared → Prop} {s : Shared}
end

section
variable {X : Cx}
end
end L2

namespace Att
open PySem PySem.W PySem.Calls PyProof.Rows

/-! ### the script -/
theorem ints_of_wellAll {P : Params} {h : Heap} : ∀ (ns : List Int) (vs : List Value), WellAll P h vs (ns.map WData.int) → IntsAre vs ns := by
  intro ns
  induction ns with
  | nil =>
    intro vs w
    rw [List.map_nil] at w
    cases w
    exact .nil
  | cons n ns ih =>
    intro vs w
    rw [List.map_cons] at w
    cases w with
    | cons a b =>
      cases a
      exact .cons _ _ (ih _ b)

theorem script_of {l : OpenLaw} {n : Nat} (hn : l.most = some n) {P : Params} {h : Heap} {args : List WData} {vals : List Value}
    (hpre : l.row.toRowW.claim.pre args = true) (hwl : WellAll P h vals args) :
    ∃ a vs ns, vals = [Value.ref a] ∧ args = [WData.list (ns.map WData.int)] ∧ h.get? a = some { cls := .type "list", data := .seq vs.toArray } ∧ IntsAre vs ns ∧ ns.length ≤ n := by
  have hsh : WShape.hasAll [] args [.list .int] = true := (pre_splitW hpre).1
  have hc : l.pre.holds [] { args := args } = true := (pre_splitW hpre).2
  obtain ⟨d, r, rfl, h1, h2⟩ := hasAllW_cons hsh
  obtain rfl := hasAllW_nil h2
  obtain ⟨xs, rfl, h3⟩ := hasW_list h1
  obtain ⟨ns, rfl⟩ := items_int h3
  have hlen : ns.length ≤ n := by
    unfold OpenLaw.pre at hc
    have h4 : (WTm.not (.lt (.lit (.int (n : Int))) (.len (.arg 0)))).holds [] { args := [.list (ns.map .int)] } = true := by
      have h4 := (holds_andW hc).1
      rw [hn] at h4
      exact h4
    have h5 := condW_of h4 (w_not (w_lt w_lit (w_len_list (w_arg rfl))))
    rw [List.length_map] at h5
    refine Nat.le_of_not_lt fun q => ?_
    have q' : (n : Int) < ((ns.length : Nat) : Int) := by omega
    first
      | (rw [decide_eq_true q'] at h5; exact absurd h5 (by decide))
      | (simp at h5; omega)
  cases hwl with
  | cons w1 w2 =>
    cases w2
    cases w1 with
    | list ho hall => exact ⟨_, _, ns, rfl, rfl, ho, ints_of_wellAll ns _ hall, hlen⟩

theorem post_true (l : OpenLaw) (args : List WData) : l.row.toRowW.claim.post args (.bool true) args = true :=
  postW_of (r := l.row.toRowW) (X := (true == true))
    (show WShape.has [] (.bool true) .bool = true by first | rfl | decide | simp [WShape.has, WShape.arms, WShape.armsAll])
    (show (WTm.eq .res (.lit (.bool true))).value [] { args := args, res := some (.bool true), after := args } = some (.bool (true == true)) from w_eq_bool (w_res rfl) w_lit) rfl

/-! ### the attachment: holds_open's last premise (the goal 'hc' behind k_head) from a wpAny of the law's body -/
/-! ### rules over ANY heap (no ledger) from facts about the written part K: the library's own take a ledger (News) for what they write -/
section
variable {prog : Program} {w : World} {A : Around} {E : Value → Shared → Prop} {s : Shared} {K : Frag}

/-! the whole heap as the ledger: makes every rule that writes through a ledger a rule over any heap -/
end
end Att

namespace L2
open PySem PySem.Spec PyProof.Rows

theorem vals_ints : ∀ {vs : List Value} {ns : List Int}, IntsAre vs ns → Vals (ns.map V.int) vs
  | _, _, .nil => .nil
  | _, _, .cons n t h => .cons ⟨t, rfl⟩ (vals_ints h)

def Only (H : Hp) : Prop := ∀ b, H b = none ∨ ∃ o xs, H b = some (.frz o (.lst xs))

theorem law_call {P : Program} {w : World} {K : PySem.W.Frag} {mg mb : Str → Option Value} {CX : CXT} {k : Nat} {fa a : Addr} {fd : FuncData} {x : Str} {sp : Sp} {s₁ : Shared} {vs : List Value} {ns : List Int}
    (KX : K.In s₁.heap) (hns : s₁.heap.Ns mainGlobals mg) (hb : s₁.heap.Ns builtinsNs mb) (hbb : ∀ x : Str, x ≠ "__name__" → mb x = bootBuiltins x) (hlim : s₁.heap.NoLimit) (hg : s₁.gens = #[])
    (ha : s₁.heap.get? a = some { cls := .type "list", data := .seq vs.toArray }) (hi : IntsAre vs ns) (hl : ns.length ≤ sizeLine) (hr : Room k callerA)
    (F : ∀ base : Heap, K.In base → base.Ns mainGlobals mg → FnOk P w K mg base CX k fa fd [x] sp) (hbind : ∀ (s : Shared) (u : Value), BindsTo s fd ⟨[u], []⟩ [(x, u)])
    (hsp : ∀ H : Hp, Only H → SqL K H a (ns.map V.int) → sp [.ref a] H (fun v _ => v = .bl true) fun _ _ _ => False)
    (hCX : ∀ H e s', CX [] H s₁ (fun _ _ _ => False) e s' → False) :
    codeAny (model P w) callerA (.call (.ref fa) ⟨[.ref a], []⟩) (fun r s' => r = .ok (.ret (.bool true)) ∧ OldK s₁.heap s'.heap ∧ s'.os = s₁.os ∧ AllBare s'.gens) s₁ := by
  have rv := vals_ints hi
  have lenV := hi.length
  -- from an abstract heap in which nothing but the script may be tracked
  have core : ∀ H : Hp, Only H → SqL K H a (ns.map V.int) → HOk P w H s₁.heap → (∀ b, H b ≠ none → b = a) → (H a ≠ none → K.lookup a = none) →
      codeAny (model P w) callerA (.call (.ref fa) ⟨[.ref a], []⟩) (fun r s' => r = .ok (.ret (.bool true)) ∧ OldK s₁.heap s'.heap ∧ s'.os = s₁.os ∧ AllBare s'.gens) s₁ := by
    intro H hO hS hok hA hK
    have base_of : ∀ {b : Addr} {o : Obj}, s₁.heap.get? b = some o → H b = none → (hidT s₁.heap H).get? b = some o := fun e n => hidT_get e n
    have noA : ∀ {b : Addr} {o : Obj} {es : Array DictEntry} {ep : Nat}, s₁.heap.get? b = some o → o.data = .dict es ep → H b = none := fun {b o es ep} e d => by
      cases q : H b with
      | none => rfl
      | some u =>
        have e' : b = a := hA b (by rw [q]; simp)
        subst e'
        rw [ha] at e; cases e
        have d' : Data.seq vs.toArray _ = Data.dict es ep := d
        cases d'
    have nsK : ∀ {b : Addr} {m : Str → Option Value}, s₁.heap.Ns b m → (hidT s₁.heap H).Ns b m := fun {b m} ⟨o, es, ep, e, d, r⟩ => ⟨o, es, ep, base_of e (noA e d), d, r⟩
    have hKb : K.In (hidT s₁.heap H) := fun b o e => base_of (KX b o e) (by
      cases q : H b with
      | none => rfl
      | some u =>
        have e' : b = a := hA b (by rw [q]; simp)
        subst e'
        rw [hK (by rw [q]; simp)] at e; cases e)
    have hM : Mod K mg (hidT s₁.heap H) := ⟨hKb, nsK hns, ⟨mb, nsK hb, hbb⟩, let ⟨mc, h1, h2⟩ := hlim; ⟨mc, nsK h1, h2⟩⟩
    have e0 : Env0 P w K mg (hidT s₁.heap H) callerA [] s₁ H := ⟨rfl, hM, fun b o e => of_hidT e, Nat.le_of_eq (hidT_size _ _), trivial, fun b hb => absurd (show b ∈ ([] : List Addr) from hb) (by simp), hok, .of_eq hg⟩
    refine codeAny_mono ((F _ hKb (nsK hns)).run callerA [] s₁ H ⟨[.ref a], []⟩ [.ref a] [.ref a] _ _ hr e0 (hbind s₁ (.ref a)) (.cons rfl .nil) (hsp H hO hS)) fun r s' h => ?_
    cases r with
    | error e => exact (hCX H e s' h).elim
    | ok fl =>
      cases fl with
      | next => exact False.elim h
      | brk => exact False.elim h
      | cont => exact False.elim h
      | ret u =>
        obtain ⟨v, H', os, bare, un, hok', r', q⟩ := h
        have q' : v = .bl true := q
        subst q'
        obtain rfl : u = Value.bool true := r'
        refine ⟨rfl, OldK.of_keep fun b o e => ?_, os, bare⟩
        cases q : H b with
        | none => exact un.keep b o e q (by intro z; exact absurd (show b ∈ ([] : List Addr) from z) (by simp)) (by simp)
        | some u =>
          rcases hO b with z | ⟨ob, xs, z⟩
          · rw [q] at z; cases z
          · have z2 := un.frzs b ob _ z
            obtain ⟨e1, _⟩ := hok b _ z
            obtain ⟨e2, _⟩ := hok' b _ z2
            rw [e] at e1; cases e1
            exact e2
  cases hk : K.lookup a with
  | some o =>
    -- the script is one of the module's own objects
    have e := KX a o hk
    rw [ha] at e
    cases e
    refine core (fun _ => none) (fun _ => .inl rfl) (.inr ⟨_, vs.toArray, _, hk, rfl, rfl, rfl, by rw [List.size_toArray, lenV]; exact hl, by simpa using rv⟩) (fun b u z => by have z' : (none : Option HO) = some u := z; cases z') (fun b z => absurd rfl z) fun z => absurd rfl z
  | none =>
    refine core (fun b => if b = a then some (.frz { cls := .type "list", data := .seq vs.toArray } (.lst (ns.map V.int))) else none) (fun b => ?_) (.inl (.inr ⟨{ cls := .type "list", data := .seq vs.toArray }, if_pos rfl⟩)) (fun b u z => ?_) (fun b z => ?_) fun _ => hk
    · by_cases hb : b = a
      · exact .inr ⟨_, _, if_pos hb⟩
      · exact .inl (if_neg hb)
    · by_cases hb : b = a
      · have z' := (if_pos hb).symm.trans z
        cases z'
        subst hb
        exact ⟨ha, by rw [List.length_map]; exact hl, vs, _, rv, ha⟩
      · have z' := (if_neg hb).symm.trans z
        cases z'
    · by_cases hb : b = a
      · exact hb
      · exact absurd (if_neg hb) z
end L2

namespace L2
open PySem PySem.Spec PyProof.Rows

end L2


/-! SHORT WORDS over the layer: a def of the text, its body, what a loop and a test want. -/
namespace L2
open PySem PySem.Spec PyProof.Rows

/-! ### the text by places -/
def inClass (s : Stmt) (j : Nat) : Stmt := match s with
  | .ClassDef _ _ _ body _ _ _ _ _ _ _ => body.getD j (.Pass ⟨0, 0, 0, 0⟩)
  | _ => .Pass ⟨0, 0, 0, 0⟩
def defArgs (s : Stmt) : Arguments := match s with
  | .FunctionDef _ a _ _ _ _ _ _ _ _ => a
  | _ => { posonlyargs := [], args := [], vararg := none, kwonlyargs := [], kw_defaults := [], kwarg := none, defaults := [] }
def defBody (s : Stmt) : List Stmt := match s with
  | .FunctionDef _ _ b _ _ _ _ _ _ _ => b
  | _ => []
def defScope (s : Stmt) : Scope := match s with
  | .FunctionDef _ _ _ _ _ _ sc _ _ _ => sc
  | _ => { kind := .function, names := [], isGenerator := false, isCoroutine := false }

/-! ### no exception leaves a def -/
abbrev CX0 : CXT := fun _ _ _ _ _ _ => False
abbrev E0 : XK := fun _ _ _ => False
theorem pass0 {X : Cx} : Passes CX0 X E0 := fun _ _ _ _ _ _ _ h => h.elim

/-! ### a def (or method) of the text as it stands behind the top -/
structure Fun (K : PySem.W.Frag) (x qual : Str) (st : Stmt) (f : Addr) (fd : FuncData) : Prop where
  ex : ∃ (oc : Value) (od : Option Addr) (kV doc pm : Value) (an : Option Addr) (cdv ct : Value) (osl : Array (Option Value)),
    fd = PySem.W.fnOf x qual (defArgs st) (defBody st) (defScope st) .none kV doc pm an cdv ct ∧ K.lookup f = some ⟨oc, od, .func fd, osl⟩ ∧ PySem.W.codeIn K cdv qual = true
  kp : PySem.W.keepIn K (.ref f) = true
section
variable {P : Program} {w : World} {K : PySem.W.Frag} {mg : Str → Option Value} {base : Heap}
theorem Fun.ok {x qual : Str} {st : Stmt} {f : Addr} {fd : FuncData} {N ps : List Str} {k : Nat} {sp : Sp} (F : Fun K x qual st f fd) (S : FnScope N ps (defScope st)) (len : ∀ vs H Q E, sp vs H Q E → vs.length = ps.length)
    (hbody : ∀ (cdv : Value) (A : Around) (outer : List Env) (s : Shared) (H : Hp) (vs : List V) (Q : VK) (E : XK), Room k (A.deeper (envOfC qual (defScope st) s.heap.objs.size f cdv)) → sp vs H Q E →
      ∃ t, PSs (cxOf CX0 P w K mg base N qual (defScope st) f cdv A outer s H E).nox (defBody st) t ∧ t { nx := fun _ H' => Q .non H', rt := Q } (start N vs) H) : FnOk P w K mg base CX0 (k + 1) f fd ps sp := by
  obtain ⟨oc, od, kV, doc, pm, an, cdv, ct, osl, rfl, lk, hcd⟩ := F.ex
  refine fn_of lk hcd S len fun A outer s H vs Q E hr hsp => ?_
  obtain ⟨t, h, q⟩ := hbody cdv A outer s H vs Q E hr hsp
  exact ⟨t, h.nox, q⟩
theorem fun_mk {x qual : Str} {st : Stmt} {f : Addr} {oc : Value} {od an : Option Addr} {osl : Array (Option Value)} {kV doc pm cdv ct : Value} (l : K.lookup f = some ⟨oc, od, .func (PySem.W.fnOf x qual (defArgs st) (defBody st) (defScope st) .none kV doc pm an cdv ct), osl⟩)
    (c : PySem.W.codeIn K cdv qual = true) (k : PySem.W.keepIn K (.ref f) = true) : Fun K x qual st f (PySem.W.fnOf x qual (defArgs st) (defBody st) (defScope st) .none kV doc pm an cdv ct) := ⟨⟨oc, od, kV, doc, pm, an, cdv, ct, osl, rfl, l, c⟩, k⟩
end
theorem hu_of {A : Around} {k : Nat} (hr : Room k A) : A.units + 1 < cLine := Nat.lt_of_le_of_lt (Nat.add_le_add_left (by decide : 1 ≤ 64) _) hr.units
/-! ### expressions in short: the name that stands in the i-th slot -/
section
variable {X : Cx}
theorem pv (i : Nat) {x : Str} {pos : Pos} (hN : X.N[i]? = some x := by rfl) (hv : Vis X.env.scope x := by first | exact Or.inl rfl | exact Or.inr (Or.inl rfl) | exact Or.inr (Or.inr rfl)) (hd : (x == ("__debug__" : Str)) = false := by decide)
    (hcd : (x == ("__classdict__" : Str)) = false := by decide) : PE X (.Name x pos) (tVar i) := pe_var hN hv hd hcd
end

/-! ### tests -/
theorem iteF {A B : Prop} (h : B) : if false = true then A else B := by
  rw [if_neg Bool.false_ne_true]
  exact h
theorem iteT {A B : Prop} (h : A) : if true = true then A else B := by
  rw [if_pos rfl]
  exact h
/-! ### heaps -/
def Same (H H' : Hp) : Prop := ∀ b o, H b = some o → H' b = some o
theorem Same.refl (H : Hp) : Same H H := fun _ _ h => h
theorem Same.trans {H H1 H2 : Hp} (a : Same H H1) (b : Same H1 H2) : Same H H2 := fun c o h => b c o (a c o h)
theorem Same.free {H H' : Hp} (e : Same H H') {l : Addr} (h : H' l = Option.none) : H l = Option.none := by
  cases q : H l with
  | none => rfl
  | some o =>
    rw [e l o q] at h
    cases h
theorem Same.seq {K : PySem.W.Frag} {H H' : Hp} {a : Addr} {xs : List V} (e : Same H H') (h : SqL K H a xs) : SqL K H' a xs := by
  rcases h with (h | ⟨o, h⟩) | h
  · exact .inl (.inl (e _ _ h))
  · exact .inl (.inr ⟨o, e _ _ h⟩)
  · exact .inr h

end L2


set_option maxHeartbeats 4000000
/-! more rules over the layer: great ints, is, tuples compared, lists unpacked, ranges by steps, list comprehensions -/
namespace L2
open PySem PySem.Spec PyProof.Rows

/-! ### great ints -/
def Sz (k : Nat) (x : Int) : Prop := x.natAbs < 2 ^ k
instance (k : Nat) (x : Int) : Decidable (Sz k x) := by unfold Sz; infer_instance
theorem Sz.mono {j k : Nat} {x : Int} (h : Sz j x) (hjk : j ≤ k) : Sz k x := Nat.lt_of_lt_of_le h (Nat.pow_le_pow_right (by decide) hjk)
theorem Sz.le {k : Nat} {x y : Int} (h : Sz k x) (hy : y.natAbs ≤ x.natAbs) : Sz k y := Nat.lt_of_le_of_lt hy h
theorem Sz.mul {j k : Nat} {x y : Int} (h : Sz j x) (h' : Sz k y) : Sz (j + k) (x * y) := by
  unfold Sz at *
  rw [Int.natAbs_mul, Nat.pow_add]
  exact Nat.mul_lt_mul'' h h'
theorem Sz.neg {k : Nat} {x : Int} (h : Sz k x) : Sz k (-x) := by unfold Sz at *; rwa [Int.natAbs_neg]
theorem Sz.add {j k : Nat} {x y : Int} (h : Sz j x) (h' : Sz k y) : Sz (max j k + 1) (x + y) := by
  have h1 := h.mono (Nat.le_max_left j k)
  have h2 := h'.mono (Nat.le_max_right j k)
  unfold Sz at *
  rw [Nat.pow_succ]
  have := Int.natAbs_add_le x y
  omega
theorem Sz.bits {k : Nat} {x : Int} (h : Sz k x) : Builtin.Int.intBits x ≤ k := by
  unfold Builtin.Int.intBits
  split
  · exact Nat.zero_le _
  · rename_i hx
    have hx' : x ≠ 0 := by simpa using hx
    have hn : x.natAbs ≠ 0 := by omega
    exact (Nat.log2_lt hn).mpr h
section
variable {X : Cx}
/-! ### is, is not of bools -/
/-! ### tuples of ints, == and != -/
/-! ### isinstance against a built-in class -/
theorem call_isinst : CallR X (.builtin "isinstance") (fun xs H Q => ∃ x T t b, xs = [x, .ty T] ∧ TyOf X.K H x t ∧ PySem.W.kitOne X.K t (.type T) = some b ∧ Q (.bl b) H) := by
  intro pins s σ H xs us Q I r h
  obtain ⟨x, T, t, b, rfl, ty, e, q⟩ := h
  obtain ⟨u, v, rfl, ru, rv⟩ := r.two
  cases rv
  exact isinst_ok I ru ty e fun tk => ⟨.bl b, H, I.tok tk, rfl, q⟩
end

/-! ### a list unpacked -/
section
variable {prog : Program} {w : World} {A : Around} {E : Value → Shared → Prop}
end
section
variable {X : Cx} {pos : Pos}
end

/-! ### range by steps -/
section
variable {X : Cx} {tg : Expr}
end
end L2

set_option maxHeartbeats 4000000
/-! list comprehensions of one clause without a test -/
namespace L2
open PySem PySem.Spec PyProof.Rows

theorem forIn_fold {α β : Type} {f : α → β → Sem (ForInStep β)} {g : β → α → β} : ∀ (l : List α) (b : β), (∀ x ∈ l, ∀ b, f x b = pure (.yield (g b x))) → forIn l b f = pure (l.foldl g b)
  | [], b, _ => rfl
  | x :: r, b, h => by
    rw [List.forIn_cons, h x List.mem_cons_self b, pure_bind]
    exact forIn_fold r (g b x) fun y hy => h y (List.mem_cons_of_mem _ hy)

def cloF (cells : List (Str × Addr)) (cs : List (Str × Addr)) (x : Str × NameKind) : List (Str × Addr) := if x.2 == .free then (x.1, (cells.lookup x.1).getD 0) :: cs else cs
def clo (names : List (Str × NameKind)) (cells : List (Str × Addr)) : List (Str × Addr) := names.foldl (cloF cells) []
theorem closure_eq {scope : Scope} {env : Env} (h : ∀ x ∈ scope.names, x.2 = .free → ∃ c, env.cells.lookup x.1 = some c) : closureFor scope env = pure (clo scope.names env.cells) := by
  simp only [closureFor]
  unfold clo
  rw [forIn_fold (g := cloF env.cells) scope.names [] (fun x hx b => by
    obtain ⟨n, k⟩ := x
    unfold cloF
    by_cases hk : k = .free
    · subst hk
      obtain ⟨c, hc⟩ := h (n, .free) hx rfl
      have hc' : env.cells.lookup n = some c := hc
      simp [cellOf, hc']
    · have hb : (k == NameKind.free) = false := by simpa using hk
      simp [hb])]
  rfl
theorem lookup_cons_eq {x n : Str} {c : Addr} {l : List (Str × Addr)} : List.lookup x ((n, c) :: l) = if x = n then some c else List.lookup x l := by
  by_cases h : x = n
  · subst h
    rw [if_pos rfl, List.lookup_cons_self]
  · rw [if_neg h, List.lookup_cons]
    have : (x == n) = false := by simpa using h
    rw [this]
theorem clo_sub {cells : List (Str × Addr)} : ∀ (names : List (Str × NameKind)) (cs : List (Str × Addr)), (∀ x ∈ names, x.2 = .free → ∃ c, cells.lookup x.1 = some c) → (∀ x c, cs.lookup x = some c → cells.lookup x = some c) →
    ∀ x c, (names.foldl (cloF cells) cs).lookup x = some c → cells.lookup x = some c
  | [], cs, _, h0 => h0
  | (n, k) :: r, cs, h, h0 => by
    refine clo_sub r _ (fun y hy => h y (List.mem_cons_of_mem _ hy)) fun x c e => ?_
    unfold cloF at e
    by_cases hk : k = .free
    · subst hk
      obtain ⟨c', hc'⟩ := h (n, .free) List.mem_cons_self rfl
      simp only [beq_self_eq_true, if_true] at e
      rw [lookup_cons_eq] at e
      have hc' : cells.lookup n = some c' := hc'
      by_cases hx : x = n
      · subst hx
        rw [if_pos rfl, hc'] at e
        rw [hc']
        exact e
      · rw [if_neg hx] at e
        exact h0 x c e
    · have hb : (k == NameKind.free) = false := by simpa using hk
      simp only [hb, Bool.false_eq_true, if_false] at e
      exact h0 x c e
theorem clo_some {cells : List (Str × Addr)} : ∀ (names : List (Str × NameKind)) (cs : List (Str × Addr)) (x : Str), ((x, NameKind.free) ∈ names ∨ ∃ c, cs.lookup x = some c) → ∃ c, (names.foldl (cloF cells) cs).lookup x = some c
  | [], cs, x, h => by
    rcases h with h | h
    · cases h
    · exact h
  | (n, k) :: r, cs, x, h => by
    refine clo_some r _ x ?_
    unfold cloF
    by_cases hk : k = .free
    · subst hk
      simp only [beq_self_eq_true, if_true]
      rw [lookup_cons_eq]
      by_cases hx : x = n
      · exact .inr ⟨_, if_pos hx⟩
      · rw [if_neg hx]
        rcases h with h | h
        · rcases List.mem_cons.mp h with h | h
          · exact absurd (congrArg Prod.fst h) hx
          · exact .inl h
        · exact .inr h
    · have hb : (k == NameKind.free) = false := by simpa using hk
      simp only [hb, Bool.false_eq_true, if_false]
      rcases h with h | h
      · rcases List.mem_cons.mp h with h | h
        · exact absurd (congrArg Prod.snd h).symm hk
        · exact .inl h
      · exact .inr h

structure LcOk (N : List Str) (osc sc : Scope) (Nc : List Str) (mp : List (Option Nat)) : Prop where
  kind : sc.kind = .function
  nocell : ∀ y ∈ sc.names, y.2 ≠ .cell
  names : ∀ y ∈ sc.names, y.2 = .local → sc.names.lookup y.1 = some .local
  free : ∀ y ∈ sc.names, y.2 = .free → osc.names.lookup y.1 = some .cell ∨ osc.names.lookup y.1 = some .free
  len : mp.length = Nc.length
  map : ∀ (i j : Nat), mp[i]? = some (some j) → ∃ x, Nc[i]? = some x ∧ N[j]? = some x ∧ sc.names.lookup x = some .free
def lcChk (N : List Str) (osc sc : Scope) (Nc : List Str) (mp : List (Option Nat)) : Bool :=
  decide (sc.kind = .function) && sc.names.all (fun y => !decide (y.2 = .cell) && (!decide (y.2 = .local) || decide (sc.names.lookup y.1 = some .local)) &&
    (!decide (y.2 = .free) || decide (osc.names.lookup y.1 = some .cell) || decide (osc.names.lookup y.1 = some .free))) &&
  decide (mp.length = Nc.length) && (List.range mp.length).all fun i => match mp[i]? with
    | some (some j) => match Nc[i]? with
      | some x => decide (N[j]? = some x) && decide (sc.names.lookup x = some .free)
      | none => false
    | _ => true
theorem LcOk.of {N : List Str} {osc sc : Scope} {Nc : List Str} {mp : List (Option Nat)} (h : lcChk N osc sc Nc mp = true) : LcOk N osc sc Nc mp := by
  unfold lcChk at h
  simp only [Bool.and_eq_true, decide_eq_true_eq, List.all_eq_true, Bool.or_eq_true, Bool.not_eq_true', decide_eq_false_iff_not] at h
  obtain ⟨⟨⟨h1, h2⟩, h3⟩, h4⟩ := h
  refine ⟨h1, fun y hy => (h2 y hy).1.1, fun y hy e => ?_, fun y hy e => ?_, h3, fun i j e => ?_⟩
  · rcases (h2 y hy).1.2 with q | q
    · exact absurd e q
    · exact q
  · rcases (h2 y hy).2 with (q | q) | q
    · exact absurd e q
    · exact .inl q
    · exact .inr q
  · have hi : i < mp.length := (List.getElem?_eq_some_iff.mp e).1
    have q := h4 i (List.mem_range.mpr hi)
    rw [e] at q
    cases hx : Nc[i]? with
    | none => rw [hx] at q; simp at q
    | some x =>
      rw [hx] at q
      simp only [Bool.and_eq_true, decide_eq_true_eq] at q
      exact ⟨x, rfl, q.1, q.2⟩
theorem lookup_map_free {f : Str × NameKind → Str × NameKind} (h1 : ∀ p, (f p).1 = p.1) (h2 : ∀ p, p.2 = .free → (f p).2 = .cell ∨ (f p).2 = .free) : ∀ {names : List (Str × NameKind)} {x : Str}, names.lookup x = some .free → (names.map f).lookup x = some .cell ∨ (names.map f).lookup x = some .free
  | [], _, h => by simp at h
  | (n, k) :: r, x, h => by
    have ih := @lookup_map_free f h1 h2 r x
    rw [List.map_cons]
    have q1 := h1 (n, k)
    have q2 := h2 (n, k)
    generalize f (n, k) = z at q1 q2
    obtain ⟨n', k'⟩ := z
    have q1' : n' = n := q1
    subst q1'
    cases hx : x == n' with
    | true =>
      rw [List.lookup_cons, hx] at h
      have hk : k = .free := by simpa using h
      rw [List.lookup_cons, hx]
      rcases q2 hk with e | e
      · have e' : k' = .cell := e
        subst e'
        exact .inl rfl
      · have e' : k' = .free := e
        subst e'
        exact .inr rfl
    | false =>
      rw [List.lookup_cons, hx] at h
      rw [List.lookup_cons, hx]
      exact ih h
theorem lookup_relabel_free {env : Env} {names : List (Str × NameKind)} {x : Str} (h : names.lookup x = some .free) :
    (names.map fun (n, k) => if (k == NameKind.free && env.scope.kind == .function && env.kindOf n == some .cell) then (n, NameKind.cell) else (n, k)).lookup x = some .cell ∨
    (names.map fun (n, k) => if (k == NameKind.free && env.scope.kind == .function && env.kindOf n == some .cell) then (n, NameKind.cell) else (n, k)).lookup x = some .free := by
  refine lookup_map_free (fun p => ?_) (fun p hp => ?_) h
  · obtain ⟨n, k⟩ := p
    dsimp only
    split <;> rfl
  · obtain ⟨n, k⟩ := p
    dsimp only
    split
    · exact .inl rfl
    · exact .inr hp
theorem relabel_has {env : Env} {names : List (Str × NameKind)} {x : Str} {k' : NameKind} (hc : ∀ y ∈ names, y.2 ≠ .cell) (hk : k' = .cell ∨ k' = .free)
    (h : (names.map fun (n, k) => if (k == NameKind.free && env.scope.kind == .function && env.kindOf n == some .cell) then (n, NameKind.cell) else (n, k)).lookup x = some k') : (x, NameKind.free) ∈ names := by
  have m := PySem.mem_of_lookup h
  obtain ⟨⟨n, k⟩, hm, e⟩ := List.mem_map.mp m
  dsimp only at e
  by_cases hf : k = .free
  · subst hf
    have e1 : n = x := by
      by_cases hc' : (NameKind.free == NameKind.free && env.scope.kind == .function && env.kindOf n == some .cell) = true
      · rw [if_pos hc'] at e
        exact congrArg Prod.fst e
      · rw [if_neg hc'] at e
        exact congrArg Prod.fst e
    exact e1 ▸ hm
  · have hb : (k == NameKind.free) = false := by simpa using hf
    simp only [hb, Bool.false_and, Bool.false_eq_true, if_false] at e
    cases e
    rcases hk with z | z
    · exact absurd z (hc _ hm)
    · exact absurd z hf

def cxLc (X : Cx) (scope : Scope) (Nc : List Str) (ex : List Addr) (pins : List (Addr × Obj)) (s : Shared) (H : Hp) : Cx where
  prog := X.prog
  w := X.w
  K := X.K
  mg := X.mg
  base := X.base
  A := X.A
  N := Nc
  s₀ := s
  H₀ := H
  env := compEnvC scope (clo scope.names X.env.cells) s.heap.objs.size X.env
  outer := X.stack
  stack := X.stack
  ex := ex
  fn := fun _ => false
  calm := X.calm
  pn := X.pn ++ pins
  xe := fun _ _ => False
def sub (mp : List (Option Nat)) (σ : St) : St := mp.map fun o => match o with | some j => (σ[j]?).join | none => none
theorem sub_get {mp : List (Option Nat)} {σ : St} {i : Nat} {v : V} (h : (sub mp σ)[i]? = some (some v)) : ∃ j, mp[i]? = some (some j) ∧ σ[j]? = some (some v) := by
  unfold sub at h
  rw [List.getElem?_map] at h
  cases e : mp[i]? with
  | none => rw [e] at h; cases h
  | some o =>
    rw [e] at h
    cases o with
    | none => cases h
    | some j =>
      refine ⟨j, rfl, ?_⟩
      have h' : (σ[j]?).join = some v := Option.some.inj h
      cases q : σ[j]? with
      | none => rw [q] at h'; cases h'
      | some z => rw [q] at h'; exact congrArg some h'

section
variable {X : Cx} {pins : List (Addr × Obj)} {σ : St} {H : Hp} {s : Shared} {scope : Scope} {Nc : List Str} {mp : List (Option Nat)} {fp : List Addr}
theorem lc_cells (I : Inv X pins σ H s) (S : LcOk X.N X.env.scope scope Nc mp) : ∀ x ∈ scope.names, x.2 = .free → ∃ c, X.env.cells.lookup x.1 = some c := fun x hx e =>
  I.ok.has x.1 (S.free x hx e)
theorem lc_sub (I : Inv X pins σ H s) (S : LcOk X.N X.env.scope scope Nc mp) {x : Str} {c : Addr} (h : (clo scope.names X.env.cells).lookup x = some c) : X.env.cells.lookup x = some c :=
  clo_sub scope.names [] (lc_cells I S) (fun _ _ e => by cases e) x c h
theorem lc_ok (I : Inv X pins σ H s) (S : LcOk X.N X.env.scope scope Nc mp) (hf : ∀ b ∈ fp, FpOk X pins H b) (hl : ∀ b ∈ fp, b < s.heap.objs.size) : (cxLc X scope Nc fp pins s H).Ok where
  mod := I.ok.mod
  kind := S.kind
  glob := I.ok.glob
  blt := I.ok.blt
  above := Nat.le_refl _
  inj := fun x y c e1 e2 => I.ok.inj x y c (lc_sub I S e1) (lc_sub I S e2)
  has := fun x h => by
    have hm : (x, NameKind.free) ∈ scope.names := by
      rcases h with h | h
      · exact relabel_has S.nocell (.inl rfl) h
      · exact relabel_has S.nocell (.inr rfl) h
    exact clo_some scope.names [] x (.inl hm)
  cab := fun x c h _ => by cases h
  hd := I.ok.hd
  frames := I.ok.frames
  stk := .inl rfl
  exf := fun b hb => ⟨Nat.ne_of_lt (hl b hb), fun x c e => (hf b hb).2.2.2.2.1 x c (lc_sub I S e)⟩
  bs := I.bs
  bsz := Nat.le_trans I.ok.bsz I.sz
  noex := fun b o e hb => by
    rcases (hf b hb).2.2.2.1 with z | z
    · exact I.ok.noex b o e z
    · exact absurd (Nat.lt_of_lt_of_le (Heap.lt_size e) (Nat.le_trans I.ok.bsz z)) (Nat.lt_irrefl _)
  exfs := fun b hb z => by
    rcases List.mem_cons.mp (I.stkSub b z) with e | e
    · exact (hf b hb).2.1 e
    · exact (hf b hb).2.2.1 e
  funs := I.stack
  frf := I.stkFree
theorem lc_start (I : Inv X pins σ H s) (S : LcOk X.N X.env.scope scope Nc mp) (hf : ∀ b ∈ fp, FpOk X pins H b) (hl : ∀ b ∈ fp, b < s.heap.objs.size) {h₁ : Heap} {m : Str → Option Value} {tk : Nat}
    (hn : h₁.Ns s.heap.objs.size m) (k : ∀ b o, s.heap.get? b = some o → h₁.get? b = some o) : Inv (cxLc X scope Nc fp pins s H) [] (sub mp σ) H { s with heap := h₁, toks := tk } := by
  refine ⟨lc_ok I S hf hl, rfl, I.bare, Un.kept k, ⟨m, hn, fun i x v e1 e2 _ => ?_⟩, fun x c e => ?_, I.hok.fresh (Nat.le_refl _), fun x c e => I.freeC x c (lc_sub I S e), fun p hp => ?_, I.hok.kept k, ?_⟩
  · obtain ⟨j, hj, hv⟩ := sub_get e2
    obtain ⟨y, y1, y2, y3⟩ := S.map i j hj
    have e1' : Nc[i]? = some x := e1
    rw [e1'] at y1
    cases y1
    have hm := PySem.mem_of_lookup y3
    have vis : Vis X.env.scope x := .inr (S.free _ hm rfl)
    obtain ⟨mo, _, hloc⟩ := I.loc
    obtain ⟨u, ru, lk⟩ := hloc j x v y2 hv vis
    refine ⟨u, ru, .inr ⟨lookup_relabel_free y3, ?_⟩⟩
    obtain ⟨c, hc⟩ := clo_some (cells := X.env.cells) scope.names [] x (.inl hm)
    have hc' := lc_sub I S hc
    rcases lk with ⟨z, _⟩ | ⟨_, c', z, q⟩
    · rcases S.free _ hm rfl with z' | z' <;> (have z'' : X.env.scope.names.lookup x = some .local := z; rw [z''] at z'; cases z')
    · rw [hc'] at z
      cases z
      obtain ⟨o, ho, hd⟩ := q
      exact ⟨c, hc, o, k c o ho, hd⟩
  · obtain ⟨v, o, ho, hd⟩ := I.cell x c (lc_sub I S e)
    exact ⟨v, o, k c o ho, hd⟩
  · have hp' : p ∈ X.pn ++ pins := by
      have : p ∈ (X.pn ++ pins) ++ [] := hp
      simpa using this
    obtain ⟨e, n, ne, nf, d⟩ := I.pin p hp'
    refine ⟨k _ _ e, n, Nat.ne_of_lt (Heap.lt_size e), fun z => ?_, d⟩
    rcases List.mem_cons.mp (I.stkSub p.1 z) with q | q
    · exact ne q
    · exact nf q
  · show (sub mp σ).length = Nc.length
    unfold sub
    rw [List.length_map]
    exact S.len
theorem lc_end (I : Inv X pins σ H s) (hf : ∀ b ∈ fp, FpOk X pins H b) {σ' : St} {H' : Hp} {s' : Shared} {pl : List (Addr × Obj)} (J : Inv (cxLc X scope Nc fp pins s H) pl σ' H' s') : Inv X pins σ H' s' :=
  I.call' J.os J.base J.hok J.bare fun b hb => ⟨(hf b hb).2.2.2.1, (hf b hb).2.1, (hf b hb).2.2.2.2.1, (hf b hb).2.2.2.2.2⟩
theorem Inv.turnedNew (I : Inv X pins σ H s) {C : Addr} {h' : Heap} {t' : Nat} (k : ∀ b o, b ≠ C → s.heap.get? b = some o → h'.get? b = some o) (hn : H C = none) (h1 : X.s₀.heap.objs.size ≤ C)
    (hL : C ≠ X.env.locals) (hc : ∀ x c, X.env.cells.lookup x = some c → c ≠ C) (hp : ∀ p ∈ X.pn ++ pins, p.1 ≠ C) : Inv X pins σ H { s with heap := h', toks := t' } :=
  I.turned k hn hL (.inr h1) hc hp
end

section
variable {M : Model} {A : Around} {E : Value → Shared → Prop}
abbrev Calm : Value → Shared → Prop := fun _ _ => False
theorem thenC {α β : Type} {m : Sem α} {f : α → Sem β} {P : α → Shared → Prop} {Q : β → Shared → Prop} {s : Shared} (h : wpAny M A m P Calm s) (k : ∀ x s', P x s' → wpAny M A (f x) Q E s') : wpAny M A (m >>= f) Q E s :=
  wpAny_bind (wpAny_mono h k fun _ _ z => z.elim)
end
theorem compLoop_calm {prog : Program} {w : World} {A : Around} {R : Result → Shared → Prop} {s : Shared} {e t i : Expr} {sc : Scope} {pos : Pos} {it acc : Value} {env : Env} (J : Nat → Shared → Prop)
    (turn : ∀ n s, J n s → wpAny (model prog w) A (pyNext it) (fun r s1 => (r = none → R (.ok .next) s1) ∧ ∀ v, r = some v →
      wpAny (model prog w) A (letOwnedTupleGo t it v) (fun _ s2 => wpAny (model prog w) A (assign t env v) (fun _ s3 => wpAny (model prog w) A (eval e env) (fun x s4 =>
        wpAny (model prog w) A (call (.builtin "list.append") [acc, x]) (fun _ s5 => ∃ m, m < n ∧ J m s5) Calm s4) Calm s3) Calm s2) Calm s1) Calm s)
    (n : Nat) (h : J n s) : codeAny (model prog w) A (.compLoop (.ListComp e [⟨t, i, [], 0⟩] sc pos) 0 it acc env) R s := by
  have eq := compTurn_list1 e t i sc pos it acc env
  refine codeAny_loop rfl J (fun n s j => wpAny_noted (m := compTurn (.ListComp e [⟨t, i, [], 0⟩] sc pos) 0 it acc env) ?_) n h
  rw [eq]
  refine wpAny_bind (wpAny_standAt (thenC (turn n s j) fun r s1 q => ?_))
  match r, q with
  | none, q => exact wpAny_pure (q.1 rfl)
  | some v, q => exact thenC (q.2 v rfl) fun _ s2 q2 => thenC q2 fun _ s3 q3 => wpAny_bind (thenC q3 fun x s4 q4 => thenC q4 fun _ s5 q5 => wpAny_pure (wpAny_pure ⟨rfl, q5⟩))

def LcW (J : It) (g : TG) (te : TE) (σ : St) (H : Hp) (acc : Addr) (Q : VK) : Prop := ∃ W : Nat → Nat → List V → St → Hp → Prop, (∃ m, W 0 m [] σ (upd H acc (.lst []))) ∧
  ∀ i m ys σ2 H2, W i m ys σ2 H2 → (J.stop i H2 ∧ Q (.ref acc) H2) ∨ (J.go i H2 ∧ ∀ x H3, J.yld i H2 x H3 → g x σ2 H3 fun σ4 H4 => te σ4 H4 fun y H5 =>
    H5 acc = some (.lst ys) ∧ ys.length < sizeLine ∧ ∃ m', m' < m ∧ W (i + 1) m' (ys ++ [y]) σ4 (upd H5 acc (.lst (ys ++ [y]))))
def tLc (mp : List (Option Nat)) (wi : TI) (g : TG) (te : TE) : TE := fun σ H Q => wi σ H fun J H1 => ∀ acc, H1 acc = none → LcW J g te (sub mp σ) H1 acc Q

section
variable {X : Cx} {elt tg iter : Expr} {scope : Scope} {pos : Pos} {wi : TI} {g : TG} {te : TE} {Nc : List Str} {mp : List (Option Nat)}
abbrev withList (s : Shared) : Shared := { s with heap := s.heap.push { cls := .type "list", dict := none, data := .seq ([] : List Value).toArray } }
theorem lc_run (hc : X.calm = true) (S : LcOk X.N X.env.scope scope Nc mp) (hg : ∀ ex pins s H, PG (cxLc X scope Nc ex pins s H) tg g) (he : ∀ ex pins s H, PE (cxLc X scope Nc ex pins s H) elt te)
    {pins : List (Addr × Obj)} {σ : St} {H2 : Hp} {s2 : Shared} {E : Value → Shared → Prop} {it : Addr} {fp : List Addr} {tn : Nat → Heap → Prop} {J : It} {Q : VK} {RR : Value → Addr → Result → Shared → Prop}
    (I2 : Inv X pins σ H2 s2) (T : Turn X.prog X.w X.K tg J fp it tn) (st2 : tn 0 s2.heap) (f2 : ∀ b ∈ fp, FpOk X pins H2 b)
    (q : ∀ acc, H2 acc = none → LcW J g te (sub mp σ) H2 acc Q)
    (fin : ∀ acc C H' s' m', Q (.ref acc) H' → Inv X pins σ H' s' → s'.heap.Ns C m' → H' C = none → X.s₀.heap.objs.size ≤ C → C ≠ X.env.locals → (∀ x c, X.env.cells.lookup x = some c → c ≠ C) → (∀ p ∈ X.pn ++ pins, p.1 ≠ C) → RR (.ref acc) C (.ok .next) s') :
    wpAny (model X.prog X.w) X.A (newList []) (fun acc s₃ => wpAny (model X.prog X.w) X.A (newFunctionEnv scope X.env.globals (clo scope.names X.env.cells) [] X.env.qual none .none (some X.env)) (fun cenv s₄ =>
      codeAny (model X.prog X.w) X.A (.compStart (.ListComp elt [⟨tg, iter, [], 0⟩] scope pos) 0 (.ref it) acc { cenv with scope := relabel scope X.env }) (RR acc cenv.locals) s₄) E s₃) E s2 := by
  refine wpAny_newObj_type (wpAny_newFunctionEnv S.nocell (by intro y hy; simp at hy) (fun h₁ hns₁ hsb₁ => ?_) S.kind)
  dsimp only at hns₁ hsb₁ ⊢
  have I3 := I2.lnew (its := []) (ys := []) (t' := s2.toks) .nil (Nat.zero_le _)
  have hacc : H2 s2.heap.objs.size = none := I2.fresh
  obtain ⟨W, ⟨m0, w0⟩, turn⟩ := q s2.heap.objs.size hacc
  have hpush : (s2.heap.push { cls := .type "list", dict := none, data := .seq ([] : List Value).toArray }).objs.size = s2.heap.objs.size + 1 := Heap.size_push ..
  have hlt : ∀ b ∈ fp, b < s2.heap.objs.size := fun b hb => by
    obtain ⟨o, e, _⟩ := T.obj _ _ st2 b hb
    exact Heap.lt_size e
  have f3 : ∀ b ∈ fp, FpOk X pins (upd H2 s2.heap.objs.size (.lst [])) b := fun b hb => ⟨by rw [upd_ne (Nat.ne_of_lt (hlt b hb))]; exact (f2 b hb).1, (f2 b hb).2⟩
  have I3' : Inv X pins σ (upd H2 s2.heap.objs.size (.lst [])) (withList s2) := I3
  have hsz : (withList s2).heap.objs.size = s2.heap.objs.size + 1 := hpush
  have hlt3 : ∀ b ∈ fp, b < (withList s2).heap.objs.size := fun b hb => by rw [hsz]; exact Nat.lt_succ_of_lt (hlt b hb)
  have k3 : ∀ b o, (withList s2).heap.get? b = some o → h₁.get? b = some o := fun b o e => hsb₁.extBut b o (Nat.ne_of_lt (Heap.lt_size e)) (Heap.get?_push_of_some _ e)
  have Ic := lc_start (tk := (withList s2).toks) I3' S f3 hlt3 hns₁ k3
  have st3 : tn 0 h₁ := T.keep _ _ _ st2 fun b hb o e => k3 b o (Heap.get?_push_of_some _ e)
  -- what the block's frame is to the def
  have cC : X.s₀.heap.objs.size ≤ (withList s2).heap.objs.size := I3'.sz
  have cL : (withList s2).heap.objs.size ≠ X.env.locals := Nat.ne_of_gt I3'.lt
  have cc : ∀ x c, X.env.cells.lookup x = some c → c ≠ (withList s2).heap.objs.size := fun x c e => by
    obtain ⟨v, o, ho, _⟩ := I3'.cell x c e
    exact Nat.ne_of_lt (Heap.lt_size ho)
  have cp : ∀ p ∈ X.pn ++ pins, p.1 ≠ (withList s2).heap.objs.size := fun p hp => Nat.ne_of_lt (Heap.lt_size (I3'.pin p hp).1)
  have stat : ∀ {H' : Hp}, (∀ b ∈ fp, H' b = none) → ∀ b ∈ fp, FpOk (cxLc X scope Nc fp pins (withList s2) (upd H2 s2.heap.objs.size (.lst []))) [] H' b := fun hn b hb =>
    ⟨hn b hb, Nat.ne_of_lt (hlt3 b hb), fun z => by
      rcases List.mem_cons.mp (I3'.stkSub b z) with e | e
      · exact (f3 b hb).2.1 e
      · exact (f3 b hb).2.2.1 e, .inl hb, fun x c e => (f3 b hb).2.2.2.2.1 x c (lc_sub I3' S e), fun p hp => (f3 b hb).2.2.2.2.2 p (by
        have : p ∈ (X.pn ++ pins) ++ [] := hp
        simpa using this)⟩
  have loop : ∀ s4 : Shared, s4 = { (withList s2) with heap := h₁, toks := (withList s2).toks } →
      codeAny (model X.prog X.w) X.A (.compLoop (.ListComp elt [⟨tg, iter, [], 0⟩] scope pos) 0 (.ref it) (.ref s2.heap.objs.size) (cxLc X scope Nc fp pins (withList s2) (upd H2 s2.heap.objs.size (.lst []))).env)
        (RR (.ref s2.heap.objs.size) (withList s2).heap.objs.size) s4 := by
    rintro s4 rfl
    refine compLoop_calm (fun n s' => ∃ i ys σ' H', Inv (cxLc X scope Nc fp pins (withList s2) (upd H2 s2.heap.objs.size (.lst []))) [] σ' H' s' ∧ tn i s'.heap ∧ (∀ b ∈ fp, H' b = none) ∧ W i n ys σ' H') ?_ m0
      ⟨0, [], sub mp σ, _, Ic, st3, fun b hb => (f3 b hb).1, w0⟩
    rintro n s5 ⟨i, ys, σ5, H5, I5, st5, fr5, w5⟩
    rcases turn i n ys σ5 H5 w5 with ⟨stop, qn⟩ | ⟨go, step⟩
    · refine wpAny_mono (T.done (cxLc X scope Nc fp pins (withList s2) (upd H2 s2.heap.objs.size (.lst []))) rfl rfl rfl hc i [] s5 σ5 H5 (fun _ _ => False) I5 (stat fr5) st5 stop) (fun r s6 ⟨hr, I6⟩ => ?_) fun _ _ f => f.elim
      subst hr
      obtain ⟨m6, hn6, _⟩ := I6.loc
      refine ⟨fun _ => ?_, fun _ z => nomatch z⟩
      exact fin _ _ H5 s6 m6 qn (lc_end I3' f3 I6) hn6 I6.free cC cL cc cp
    · refine wpAny_mono (T.item (cxLc X scope Nc fp pins (withList s2) (upd H2 s2.heap.objs.size (.lst []))) rfl rfl rfl hc i [] s5 σ5 H5 (fun _ _ => False) I5 (stat fr5) st5 go) (fun r s6 ⟨u, hr, h6⟩ => ?_) fun _ _ f => f.elim
      subst hr
      refine ⟨(fun z => by cases z), ?_⟩
      rintro _ ⟨⟩
      refine wpAny_mono h6 (fun _ s7 ⟨x, H7, I7, r7, y7, st7, fr7⟩ => ?_) fun _ _ f => f.elim
      have I7' := I7.pinned (stat fr7) (T.obj _ _ st7)
      refine wpAny_mono (hg _ _ _ _ _ s7 σ5 H7 x u _ I7' r7 (step x H7 y7)) (fun _ s8 ⟨σ8, H8, I8, q8⟩ => ?_) fun _ _ f => f.elim
      refine wpAny_mono (he _ _ _ _ _ s8 σ8 H8 _ I8 q8) (fun v s9 ⟨y, H9, I9, r9, a9, l9, m', hm', w9⟩ => ?_) fun _ _ f => f.elim
      refine wpAny_mono (mt_append (X := cxLc X scope Nc fp pins (withList s2) (upd H2 s2.heap.objs.size (.lst []))) _ s9 σ8 H9 (.ref s2.heap.objs.size) [y] (.ref s2.heap.objs.size) [v] (fun z Hz => z = .non ∧ Hz = upd H9 s2.heap.objs.size (.lst (ys ++ [y]))) I9 rfl (.cons r9 .nil) ⟨_, ys, y, rfl, rfl, a9, l9, rfl, rfl⟩) (fun v10 s10 ⟨z, H10, I10, _, _, e10⟩ => ?_) fun _ _ f => f.elim
      subst e10
      refine ⟨m', hm', i + 1, ys ++ [y], σ8, _, I10.unpinned, T.keep _ _ _ st7 fun b hb o e => (I10.pin (b, o) (List.mem_append_right _ (List.mem_append_right _ (mem_pinsAt hb e)))).1, fun b hb => ?_, w9⟩
      obtain ⟨o, e, d⟩ := T.obj _ _ st7 b hb
      exact (I10.pin (b, o) (List.mem_append_right _ (List.mem_append_right _ (mem_pinsAt hb e)))).2.1
  exact codeAny_compStart_list (loop _ rfl) (T.self _ 0 _ _ _ st3 (loop _ rfl))
theorem pe_lc (hc : X.calm = true) (S : LcOk X.N X.env.scope scope Nc mp) (hi : PI X tg iter wi) (hg : ∀ ex pins s H, PG (cxLc X scope Nc ex pins s H) tg g) (he : ∀ ex pins s H, PE (cxLc X scope Nc ex pins s H) elt te)
    (hf : ∀ x, foldedSetIterable iter X.env x = pure x := by intro _; rfl) : PE X (.ListComp elt [⟨tg, iter, [], 0⟩] scope pos) (tLc mp wi g te) := by
  intro pins s σ H Q I h
  rw [eval_ListComp]
  refine wpAny_comprehension_free (use := none) rfl hf (closure_eq (lc_cells I S)) S.kind S.names (thn (hi pins s σ H _ I h) fun v s1 h1 => thn h1 fun itv s2 h2 => ?_)
  obtain ⟨it, fp, tn, J, H2, e, I2, T, st2, f2, q⟩ := h2
  subst e
  refine lc_run (RR := fun acc C => compPost (model X.prog X.w) X.A X.xe none (EP X pins σ Q) acc C) hc S hg he I2 T st2 f2 q ?_
  intro acc C H' s' m' qq I' hn hC c1 c2 c3 c4
  refine ⟨m', hn, fun h' hs => ⟨.ref acc, H', ?_, rfl, qq⟩⟩
  exact I'.turnedNew (t' := s'.toks) (fun b o hb e => hs.extBut b o hb e) hC c1 c2 c3 c4
theorem ps_setLc {i : Nat} {x : Str} {pos' spos : Pos} (hc : X.calm = true) (hN : X.N.Nodup) (hi' : X.N[i]? = some x) (hx : X.env.scope.names.lookup x = some .local) (S : LcOk X.N X.env.scope scope Nc mp) (hi : PI X tg iter wi)
    (hg : ∀ ex pins s H, PG (cxLc X scope Nc ex pins s H) tg g) (he : ∀ ex pins s H, PE (cxLc X scope Nc ex pins s H) elt te)
    (hsw : swapsWith (.ListComp elt [⟨tg, iter, [], 0⟩] scope pos) (some (.Name x pos')) spos.line X.env = pure true)
    (hf : ∀ x, foldedSetIterable iter X.env x = pure x := by intro _; rfl) : PS X (.Assign [.Name x pos'] (.ListComp elt [⟨tg, iter, [], 0⟩] scope pos) spos) (tAsg (tLc mp wi g te) (gName i)) := by
  intro pins s σ H D I h
  rw [exec_Assign_Name_used _ _ _ _ hsw]
  refine wpAny_bind (wpAny_standAt (wpAny_bind ?_))
  show wpAny _ X.A (do let _ ← comprehension (.ListComp elt [⟨tg, iter, [], 0⟩] scope pos) scope X.env _ (newList []) false (eval iter X.env) (some (assign (.Name x pos') X.env))) _ _ s
  refine wpAny_bind (wpAny_mono (wpAny_comprehension_free (use := some (assign (.Name x pos') X.env)) (Q := fun _ s' => SP X pins D .next s') rfl hf (closure_eq (lc_cells I S)) S.kind S.names
    (thn (hi pins s σ H _ I h) fun v s1 h1 => thn h1 fun itv s2 h2 => ?_)) (fun _ s' hq => wpAny_pure (wpAny_pure hq)) fun _ _ e => e)
  obtain ⟨it, fp, tn, J, H2, e, I2, T, st2, f2, q⟩ := h2
  subst e
  refine lc_run (Q := fun x H1 => gName i x σ H1 D.nx) (RR := fun acc C => compPost (model X.prog X.w) X.A X.xe (some (assign (.Name x pos') X.env)) (fun _ s' => SP X pins D .next s') acc C) hc S hg he I2 T st2 f2 q ?_
  intro acc C H' s' m' qq I' hn hC c1 c2 c3 c4
  show wpAny _ X.A (assign (.Name x pos') X.env (.ref acc)) _ _ _
  refine wpAny_assign_Name (store_ok2 (v := .ref acc) I' hN hi' (.inl hx) rfl (fun s5 I5 ⟨a, hs5, ha⟩ => ?_) (.inr hx))
  have hCa : C ≠ a := by
    rcases ha with z | z
    · rw [z]; exact c2
    · exact Ne.symm (c3 x a z)
  refine ⟨m', hn.sameBut hs5 hCa, fun h' hs => ⟨σ.set i (some (.ref acc)), H', ?_, qq⟩⟩
  exact I5.turnedNew (t' := s5.toks) (fun b o hb e => hs.extBut b o hb e) hC c1 c2 c3 c4
end

/-! ### the forms one uses: the block's own name first -/
theorem lc_by {J : It} {n : Nat} {val : Nat → V} {te : TE} {fr : St} {H1 : Hp} {acc : Addr} {Q : VK} (Pv : Nat → List V → Hp → Prop) (hn : n ≤ sizeLine) (h0 : Pv 0 [] (upd H1 acc (.lst [])))
    (hgo : ∀ i ys H, i < n → Pv i ys H → J.go i H ∧ ∀ x H', J.yld i H x H' → H' = H ∧ x = val i) (hst : ∀ ys H, Pv n ys H → J.stop n H)
    (hs : ∀ i ys H (N : V → Hp → Prop), i < n → ys.length = i → Pv i ys H → (∀ y H5, H5 acc = some (.lst ys) → Pv (i + 1) (ys ++ [y]) (upd H5 acc (.lst (ys ++ [y]))) → N y H5) → te (some (val i) :: fr) H N)
    (hd : ∀ ys H, ys.length = n → Pv n ys H → Q (.ref acc) H) :
    LcW (J) (gName 0) te (none :: fr) H1 acc Q := by
  refine ⟨fun i m ys σ2 H2 => m = n - i ∧ i ≤ n ∧ ys.length = i ∧ (∃ v, σ2 = v :: fr) ∧ Pv i ys H2, ⟨n, by simp, Nat.zero_le _, rfl, ⟨_, rfl⟩, h0⟩, ?_⟩
  rintro i m ys σ2 H2 ⟨rfl, hi, hl, ⟨v, rfl⟩, p⟩
  by_cases hlt : i < n
  · obtain ⟨go, yl⟩ := hgo i ys H2 hlt p
    refine .inr ⟨go, fun x H3 y3 => ?_⟩
    obtain ⟨e1, e2⟩ := yl x H3 y3
    subst e1 e2
    show te ((v :: fr).set 0 (some (val i))) H3 _
    rw [List.set_cons_zero]
    refine hs i ys H3 _ hlt hl p fun y H5 a5 p5 => ⟨a5, by omega, n - (i + 1), by omega, rfl, hlt, by rw [List.length_append, hl]; rfl, ⟨_, rfl⟩, p5⟩
  · have e : i = n := by omega
    subst e
    exact .inl ⟨hst ys H2 p, hd ys H2 hl p⟩
theorem lc_range {lo : Int} {n : Nat} {te : TE} {fr : St} {H1 : Hp} {acc : Addr} {Q : VK} (Pv : Nat → List V → Hp → Prop) (hn : n ≤ sizeLine) (h0 : Pv 0 [] (upd H1 acc (.lst [])))
    (hs : ∀ i ys H (N : V → Hp → Prop), i < n → ys.length = i → Pv i ys H → (∀ y H5, H5 acc = some (.lst ys) → Pv (i + 1) (ys ++ [y]) (upd H5 acc (.lst (ys ++ [y]))) → N y H5) → te (some (.int (lo + i)) :: fr) H N)
    (hd : ∀ ys H, ys.length = n → Pv n ys H → Q (.ref acc) H) :
    LcW (Itr lo n) (gName 0) te (none :: fr) H1 acc Q :=
  lc_by (J := Itr lo n) (val := fun i => .int (lo + i)) Pv hn h0 (fun i ys H hi p => ⟨hi, fun x H' y => y⟩) (fun ys H p => Nat.le_refl _) hs hd
theorem lc_list {K : PySem.W.Frag} {a : Addr} {xs : List V} {te : TE} {fr : St} {H1 : Hp} {acc : Addr} {Q : VK} (Pv : Nat → List V → Hp → Prop) (hn : xs.length ≤ sizeLine) (h0 : Pv 0 [] (upd H1 acc (.lst [])))
    (hl : ∀ i ys H, Pv i ys H → SqL K H a xs)
    (hs : ∀ i x ys H (N : V → Hp → Prop), xs[i]? = some x → ys.length = i → Pv i ys H → (∀ y H5, H5 acc = some (.lst ys) → Pv (i + 1) (ys ++ [y]) (upd H5 acc (.lst (ys ++ [y]))) → N y H5) → te (some x :: fr) H N)
    (hd : ∀ ys H, ys.length = xs.length → Pv xs.length ys H → Q (.ref acc) H) :
    LcW (Itl K a) (gName 0) te (none :: fr) H1 acc Q :=
  lc_by (J := Itl K a) (n := xs.length) (val := fun i => xs.getD i .non) Pv hn h0
    (fun i ys H hi p => ⟨⟨xs, xs[i], hl i ys H p, by simp [hi]⟩, fun x H' y => ⟨y.1, by
      have := y.2 xs (hl i ys H p)
      rw [List.getD_eq_getElem?_getD, this]; rfl⟩⟩)
    (fun ys H p => ⟨xs, hl _ ys H p, Nat.le_refl _⟩)
    (fun i ys H N hi hl' p k => by
      have e : xs[i]? = some (xs.getD i .non) := by rw [List.getD_eq_getElem?_getD, List.getElem?_eq_getElem hi]; rfl
      exact hs i _ ys H N e hl' p k) hd
end L2

set_option maxHeartbeats 4000000
/-! short words: callees, tests, sizes -/
namespace L2
open PySem PySem.Spec PyProof.Rows

structure Cal (P : Program) (w : World) (K : PySem.W.Frag) (mg : Str → Option Value) (base : Heap) (k : Nat) (x : Str) (ps : List Str) (sp : Sp) : Prop where
  ex : ∃ f fd, FnOk P w K mg base CX0 k f fd ps sp ∧ Binds K fd ps [] ∧ PySem.W.keepIn K (.ref f) = true ∧ mg x = some (.ref f)
theorem Cal.mono {P : Program} {w : World} {K : PySem.W.Frag} {mg : Str → Option Value} {base : Heap} {j k : Nat} {x : Str} {ps : List Str} {sp : Sp} (c : Cal P w K mg base j x ps sp) (h : j ≤ k) : Cal P w K mg base k x ps sp :=
  let ⟨f, fd, F, b, kp, m⟩ := c.ex
  ⟨f, fd, F.mono h, b, kp, m⟩
section
variable {X : Cx} {k : Nat} {x : Str} {ps : List Str} {sp : Sp} {p pos : Pos} {e : Expr} {es : List Expr} {t : TA}
theorem pe_cal (c : Cal X.prog X.w X.K X.mg X.base k x ps sp) (hr : Room k X.A) (hg : Gl X x) (ha : PA X (e :: es) t) (hdb : (x == ("__debug__" : Str)) = false := by decide)
    (he : starEach (e :: es) X.env = (false, eval e X.env) :: starEach es X.env := by rfl) (hpl : (backTo pos (starEach es X.env)).any (·.1) = false := by rfl) : PE X (.Call (.Name x p) (e :: es) [] pos) (tCall sp [] E0 t) := by
  obtain ⟨f, fd, F, b, kp, m⟩ := c.ex
  exact pe_call F hr hg m kp b .nil pass0 ha hdb he hpl
end

structure FunAt (K : PySem.W.Frag) (x : Str) (st : Stmt) (dV : Value) : Prop where
  ex : ∃ (f : Addr) (oc : Value) (od : Option Addr) (kV doc pm : Value) (an : Option Addr) (cdv ct : Value) (osl : Array (Option Value)),
    K.lookup f = some ⟨oc, od, .func (PySem.W.fnOf x x (defArgs st) (defBody st) (defScope st) dV kV doc pm an cdv ct), osl⟩ ∧ PySem.W.codeIn K cdv x = true ∧ PySem.W.keepIn K (.ref f) = true ∧ PySem.W.nsIn K mainGlobals x = some (some (.ref f))
theorem fat {K : PySem.W.Frag} {x : Str} {st : Stmt} {f : Addr} {oc : Value} {od an : Option Addr} {osl : Array (Option Value)} {dV kV doc pm cdv ct : Value} (a : PySem.W.nsIn K mainGlobals x = some (some (.ref f)))
    (l : K.lookup f = some ⟨oc, od, .func (PySem.W.fnOf x x (defArgs st) (defBody st) (defScope st) dV kV doc pm an cdv ct), osl⟩) (c : PySem.W.codeIn K cdv x = true) (k : PySem.W.keepIn K (.ref f) = true) : FunAt K x st dV :=
  ⟨f, oc, od, kV, doc, pm, an, cdv, ct, osl, l, c, k, a⟩
def BindsAll (K : PySem.W.Frag) (x : Str) (st : Stmt) (dV : Value) (ps : List Str) : Prop := ∀ (kV doc pm : Value) (an : Option Addr) (cdv ct : Value), Binds K (PySem.W.fnOf x x (defArgs st) (defBody st) (defScope st) dV kV doc pm an cdv ct) ps []
theorem binds0 {K : PySem.W.Frag} {x : Str} {st : Stmt} {ps : List Str}
    (h : ∀ (kV doc pm : Value) (an : Option Addr) (cdv ct : Value) (us : List Value), us.length = ps.length → bindArgs (PySem.W.fnOf x x (defArgs st) (defBody st) (defScope st) .none kV doc pm an cdv ct) ⟨us, []⟩ = pure (ps.zip us)) : BindsAll K x st .none ps :=
  fun kV doc pm an cdv ct => .all (h kV doc pm an cdv ct)
theorem bnd0 {K : PySem.W.Frag} {nm : Str} {st : Stmt} (h : ∀ (kV doc pm : Value) (an : Option Addr) (cdv ct : Value), bindArgs (PySem.W.fnOf nm nm (defArgs st) (defBody st) (defScope st) .none kV doc pm an cdv ct) ⟨[], []⟩ = pure []) : BindsAll K nm st .none [] := binds0 fun kV doc pm an cdv ct us hl => by
  cases us with
  | nil => exact h kV doc pm an cdv ct
  | cons => cases hl
theorem bnd1 {K : PySem.W.Frag} {nm : Str} {st : Stmt} {x0 : Str} (h : ∀ (kV doc pm : Value) (an : Option Addr) (cdv ct : Value) (a0 : Value), bindArgs (PySem.W.fnOf nm nm (defArgs st) (defBody st) (defScope st) .none kV doc pm an cdv ct) ⟨[a0], []⟩ = pure [(x0, a0)]) : BindsAll K nm st .none [x0] := binds0 fun kV doc pm an cdv ct us hl => by
  cases us with
  | nil => cases hl
  | cons b0 t0 =>
    cases t0 with
    | nil => exact h kV doc pm an cdv ct b0
    | cons => cases hl
theorem bnd2 {K : PySem.W.Frag} {nm : Str} {st : Stmt} {x0 x1 : Str} (h : ∀ (kV doc pm : Value) (an : Option Addr) (cdv ct : Value) (a0 a1 : Value), bindArgs (PySem.W.fnOf nm nm (defArgs st) (defBody st) (defScope st) .none kV doc pm an cdv ct) ⟨[a0, a1], []⟩ = pure [(x0, a0), (x1, a1)]) : BindsAll K nm st .none [x0, x1] := binds0 fun kV doc pm an cdv ct us hl => by
  cases us with
  | nil => cases hl
  | cons b0 t0 =>
    cases t0 with
    | nil => cases hl
    | cons b1 t1 =>
      cases t1 with
      | nil => exact h kV doc pm an cdv ct b0 b1
      | cons => cases hl
theorem bnd3 {K : PySem.W.Frag} {nm : Str} {st : Stmt} {x0 x1 x2 : Str} (h : ∀ (kV doc pm : Value) (an : Option Addr) (cdv ct : Value) (a0 a1 a2 : Value), bindArgs (PySem.W.fnOf nm nm (defArgs st) (defBody st) (defScope st) .none kV doc pm an cdv ct) ⟨[a0, a1, a2], []⟩ = pure [(x0, a0), (x1, a1), (x2, a2)]) : BindsAll K nm st .none [x0, x1, x2] := binds0 fun kV doc pm an cdv ct us hl => by
  cases us with
  | nil => cases hl
  | cons b0 t0 =>
    cases t0 with
    | nil => cases hl
    | cons b1 t1 =>
      cases t1 with
      | nil => cases hl
      | cons b2 t2 =>
        cases t2 with
        | nil => exact h kV doc pm an cdv ct b0 b1 b2
        | cons => cases hl
theorem bnd4 {K : PySem.W.Frag} {nm : Str} {st : Stmt} {x0 x1 x2 x3 : Str} (h : ∀ (kV doc pm : Value) (an : Option Addr) (cdv ct : Value) (a0 a1 a2 a3 : Value), bindArgs (PySem.W.fnOf nm nm (defArgs st) (defBody st) (defScope st) .none kV doc pm an cdv ct) ⟨[a0, a1, a2, a3], []⟩ = pure [(x0, a0), (x1, a1), (x2, a2), (x3, a3)]) : BindsAll K nm st .none [x0, x1, x2, x3] := binds0 fun kV doc pm an cdv ct us hl => by
  cases us with
  | nil => cases hl
  | cons b0 t0 =>
    cases t0 with
    | nil => cases hl
    | cons b1 t1 =>
      cases t1 with
      | nil => cases hl
      | cons b2 t2 =>
        cases t2 with
        | nil => cases hl
        | cons b3 t3 =>
          cases t3 with
          | nil => exact h kV doc pm an cdv ct b0 b1 b2 b3
          | cons => cases hl
theorem bnd5 {K : PySem.W.Frag} {nm : Str} {st : Stmt} {x0 x1 x2 x3 x4 : Str} (h : ∀ (kV doc pm : Value) (an : Option Addr) (cdv ct : Value) (a0 a1 a2 a3 a4 : Value), bindArgs (PySem.W.fnOf nm nm (defArgs st) (defBody st) (defScope st) .none kV doc pm an cdv ct) ⟨[a0, a1, a2, a3, a4], []⟩ = pure [(x0, a0), (x1, a1), (x2, a2), (x3, a3), (x4, a4)]) : BindsAll K nm st .none [x0, x1, x2, x3, x4] := binds0 fun kV doc pm an cdv ct us hl => by
  cases us with
  | nil => cases hl
  | cons b0 t0 =>
    cases t0 with
    | nil => cases hl
    | cons b1 t1 =>
      cases t1 with
      | nil => cases hl
      | cons b2 t2 =>
        cases t2 with
        | nil => cases hl
        | cons b3 t3 =>
          cases t3 with
          | nil => cases hl
          | cons b4 t4 =>
            cases t4 with
            | nil => exact h kV doc pm an cdv ct b0 b1 b2 b3 b4
            | cons => cases hl
section
variable {P : Program} {w : World} {K : PySem.W.Frag} {mg : Str → Option Value} {base : Heap}
theorem FunAt.cal {x : Str} {st : Stmt} {dV : Value} {N ps : List Str} {k : Nat} {sp : Sp} (F : FunAt K x st dV) {h : Heap} (X : K.In h) (G : h.Ns mainGlobals mg) (S : FnScope N ps (defScope st)) (bi : BindsAll K x st dV ps) (len : ∀ vs H Q E, sp vs H Q E → vs.length = ps.length)
    (hbody : ∀ (f : Addr) (cdv : Value) (A : Around) (outer : List Env) (s : Shared) (H : Hp) (vs : List V) (Q : VK) (E : XK), Room k (A.deeper (envOfC x (defScope st) s.heap.objs.size f cdv)) → sp vs H Q E →
      ∃ t, PSs (cxOf CX0 P w K mg base N x (defScope st) f cdv A outer s H E).nox (defBody st) t ∧ t { nx := fun _ H' => Q .non H', rt := Q } (start N vs) H) : Cal P w K mg base (k + 1) x ps sp := by
  obtain ⟨f, oc, od, kV, doc, pm, an, cdv, ct, osl, lk, hcd, kp, ns⟩ := F.ex
  refine ⟨f, _, fn_of lk hcd S len fun A outer s H vs Q E hr hsp => ?_, bi kV doc pm an cdv ct, kp, PySem.W.mg_of X G ns⟩
  obtain ⟨t, h, q⟩ := hbody f cdv A outer s H vs Q E hr hsp
  exact ⟨t, h.nox, q⟩
end
theorem cxK {P : Program} {w : World} {K : PySem.W.Frag} {mg : Str → Option Value} {base : Heap} {N : List Str} {x : Str} {sc : Scope} {f : Addr} {cdv : Value} {A : Around} {outer : List Env} {s : Shared} {H : Hp} {E : XK} : (cxOf CX0 P w K mg base N x sc f cdv A outer s H E).nox.K = K := rfl
theorem same_new {H : Hp} {p : Addr} (h : H p = none) (o : HO) : Same H (upd H p o) := fun b u q => by rw [upd_ne (ne_of_none q h)]; exact q

/-! ### classes of values -/
theorem kit_ii (K : PySem.W.Frag) : PySem.W.kitOne K (.type "int") (.type "int") = some true := by unfold PySem.W.kitOne; rw [if_pos (by decide)]
theorem kit_bb (K : PySem.W.Frag) : PySem.W.kitOne K (.type "bool") (.type "bool") = some true := by unfold PySem.W.kitOne; rw [if_pos (by decide)]
theorem kit_ib (K : PySem.W.Frag) : PySem.W.kitOne K (.type "int") (.type "bool") = some false := by with_unfolding_all rfl

/-! ### tests over ints -/
theorem eqI {a b : Int} {A B : Prop} (h1 : a = b → A) (h2 : a ≠ b → B) : if decide (V.int a = V.int b) = true then A else B := by
  by_cases h : a = b
  · subst h
    rw [decide_eq_true rfl]
    exact iteT (h1 rfl)
  · rw [decide_eq_false fun e => h (V.int.inj e)]
    exact iteF (h2 h)
theorem neI {a b : Int} {A B : Prop} (h1 : a ≠ b → A) (h2 : a = b → B) : if (!decide (V.int a = V.int b)) = true then A else B := by
  by_cases h : a = b
  · subst h
    rw [decide_eq_true rfl]
    exact iteF (h2 rfl)
  · rw [decide_eq_false fun e => h (V.int.inj e)]
    exact iteT (h1 h)
theorem decI {p : Prop} [Decidable p] {A B : Prop} (h1 : p → A) (h2 : ¬ p → B) : if decide p = true then A else B := by
  by_cases h : p
  · rw [decide_eq_true h]; exact iteT (h1 h)
  · rw [decide_eq_false h]; exact iteF (h2 h)
theorem blI {c : Bool} {A B : Prop} (h1 : c = true → A) (h2 : c = false → B) : if c = true then A else B := by
  cases c
  · exact iteF (h2 rfl)
  · exact iteT (h1 rfl)
theorem nblI {c : Bool} {A B : Prop} (h1 : c = false → A) (h2 : c = true → B) : if (!c) = true then A else B := by
  cases c
  · exact iteT (h1 rfl)
  · exact iteF (h2 rfl)
/-! ### a statement with its own aim: what follows is shown once -/
def tCut (t u : TS) : TS := fun D σ H => ∃ Good : St → Hp → Prop, t { D with nx := Good } σ H ∧ ∀ σ' H', Good σ' H' → u D σ' H'
theorem pss_cut {X : Cx} {st : Stmt} {rest : List Stmt} {t u : TS} (h1 : PS X st t) (h2 : PSs X rest u) : PSs X (st :: rest) (tCut t u) := by
  intro pins s σ H D I h
  obtain ⟨Good, ht, hu⟩ := h
  refine wpAny_execs_cons (thn (h1 pins s σ H { D with nx := Good } I ht) fun f s1 q => ?_)
  cases f with
  | next =>
    obtain ⟨σ', H', I', q⟩ := q
    exact h2 pins s1 σ' H' D I' (hu σ' H' q)
  | ret v => exact q
  | brk => exact q
  | cont => exact q
theorem same_upd {H H' : Hp} {p : Addr} {o : HO} (h : Same H H') (hn : H p = none) : Same H (upd H' p o) := fun b u q => by rw [upd_ne (ne_of_none q hn)]; exact h b u q
end L2

set_option maxHeartbeats 4000000
/-! zip of two lists or tuples: its draws are told by what they do, not by what they are -/
namespace Zo
open PySem PySem.Spec PyProof.Rows
open Sem (wp)
def Stop (h : Heap) (e : Addr) : Prop := ∃ o, h.get? e = some o ∧ o.cls = .type "StopIteration"
def Rest (S : List Addr) (h h' : Heap) : Prop := ∀ c o, c ∉ S → h.get? c = some o → h'.get? c = some o
theorem Rest.trans {S : List Addr} {h h1 h2 : Heap} (a : Rest S h h1) (b : Rest S h1 h2) : Rest S h h2 := fun c o n e => b c o n (a c o n e)
theorem Rest.sub {S T : List Addr} {h h1 : Heap} (a : Rest S h h1) (q : ∀ c, c ∈ S → c ∈ T) : Rest T h h1 := fun c o n e => a c o (fun z => n (q c z)) e
theorem Rest.ext {S : List Addr} {h h1 : Heap} {b : Addr} (e : Heap.ExtBut b h h1) (q : b ∈ S) : Rest S h h1 := fun c o n x => e c o (fun z => n (z ▸ q)) x
theorem Rest.but {S : List Addr} {h h1 : Heap} {b : Addr} (e : Heap.SameBut b h h1) (q : b ∈ S) : Rest S h h1 := Rest.ext e.extBut q
theorem Rest.new {S : List Addr} {h : Heap} (o : Obj) : Rest S h (h.push o) := fun c u n x => Heap.get?_push_of_some _ x
def Stays (S : List Addr) (G : Heap → Prop) : Prop := ∀ h h', Rest S h h' → G h → G h'
def Told (it : Addr) (hp : Heap) (g : Array GenState) (d : Drawn) (tk : Nat) (os : OsState) (G : Heap → Prop) (ox : Option Value) (Q E : Value → Shared → Prop) : Prop :=
  (∀ x h', ox = some x → G h' → Heap.SameBut it hp h' → Q x ⟨h', g, d, tk, os⟩) ∧
  (∀ e h', ox = none → Heap.ExtBut it hp h' → Stop h' e → E (.ref e) ⟨h', g, d, tk, os⟩)
def Pull (prog : Program) (w : World) (A : Around) (it : Addr) (G G' : Heap → Prop) (ox : Option Value) : Prop :=
  ∀ {Q E : Value → Shared → Prop} {hp : Heap} {g : Array GenState} {d : Drawn} {tk : Nat} {os : OsState}, G hp → Told it hp g d tk os G' ox Q E →
    wpAny (model prog w) A (Builtin.SmallTypes.nextOf (.ref it)) Q E ⟨hp, g, d, tk, os⟩
section
variable {prog : Program} {w : World} {A : Around} {E : Value → Shared → Prop} {hp : Heap} {g : Array GenState} {d : Drawn} {tk : Nat} {os : OsState}
theorem Pull.behind {it : Addr} {G G' : Heap → Prop} {ox : Option Value} (p : Pull prog w A it G G' ox) (hg : G hp) {α : Type} {f : Value → Sem α} {k : Value → Sem Unit} {Q : α → Shared → Prop}
    (t : Told it hp g d tk os G' ox (fun x s' => wpAny (model prog w) A (f x) Q (fun e s2 => wpAny (model prog w) A (k e) (fun _ s3 => E e s3) E s2) s') (fun e s2 => wpAny (model prog w) A (k e) (fun _ s3 => E e s3) E s2)) :
    wpAny (model prog w) A ((Builtin.SmallTypes.nextOf (.ref it) >>= f).onRaise k) Q E ⟨hp, g, d, tk, os⟩ := wpAny_onRaise (wpAny_bind (p hg t))
theorem freed {z I O e : Addr} {v : Value} {h : Heap} (gz : IsZip h z I O v) (st : Stop h e) (k : ∀ h', Rest [z] h h' → Stop h' e → E (.ref e) ⟨h', g, d, tk, os⟩) :
    wpAny (model prog w) A (setField (.ref z) 0 .none) (fun _ s3 => E (.ref e) s3) E ⟨h, g, d, tk, os⟩ := by
  obtain ⟨o, ho, hc⟩ := st
  have ne : e ≠ z := by
    rintro rfl
    have q := ho.symm.trans gz
    cases q
    exact absurd (Value.type.inj hc) (by decide)
  refine wpAny_setField gz rfl (by simp) (k _ (Rest.but (Heap.SameBut.update ..) (by simp)) ⟨o, (Heap.SameBut.update ..).extBut _ _ ne ho, hc⟩)
theorem step {z I O i j : Addr} {ox oy : Option Value} {a b : Value} {G1 G1' G2 G2' : Heap → Prop} {R : PySem.Fin → Shared → Prop}
    (gz : IsZip hp z I O .none) (gI : IsPair hp I (.ref i) (.ref j)) (gO : IsPair hp O a b) (ne : O ≠ z ∧ O ≠ i ∧ O ≠ j ∧ i ≠ z ∧ j ≠ z)
    (p1 : Pull prog w A i G1 G1' ox) (p2 : Pull prog w A j G2 G2' oy) (a1 : G1 hp) (a2 : G2 hp)
    (k1 : Stays [z, O, j] G1) (k2 : Stays [z, O, i] G2) (k3 : Stays [z, O, j] G1') (k4 : Stays [z, O, i] G2')
    (go : ∀ x y h', ox = some x → oy = some y → IsZip h' z I O (rawInt hp.objs.size) → IsPair h' O x y → IsPair h' hp.objs.size x y → G1' h' → G2' h' → Rest [z, O, i, j] hp h' → R (.done (.ret (.ref hp.objs.size))) ⟨h', g, d, tk, os⟩)
    (stop : ∀ e h', ox = none ∨ oy = none → Rest [z, O, i, j] hp h' → Stop h' e → E (.ref e) ⟨h', g, d, tk, os⟩) :
    wpAny (model prog w) A (Builtin.«zip.__next__» ⟨[.ref z], []⟩) R E ⟨hp, g, d, tk, os⟩ := by
  obtain ⟨n1, n2, n3, n4, n5⟩ := ne
  have c0 : (#[Value.none, .bool false, .bool false, .ref I, .ref O] : Array Value)[0]? = some .none := rfl
  have c2 : (#[Value.none, .bool false, .bool false, .ref I, .ref O] : Array Value)[2]? = some (.bool false) := rfl
  have c3 : (#[Value.none, .bool false, .bool false, .ref I, .ref O] : Array Value)[3]? = some (.ref I) := rfl
  have c4 : (#[Value.none, .bool false, .bool false, .ref I, .ref O] : Array Value)[4]? = some (.ref O) := rfl
  have z0 : 0 < (#[Value.none, .bool false, .bool false, .ref I, .ref O] : Array Value).size := by simp
  wp_walk using wpAny_field gz rfl c2, wpAny_field gz rfl c3, wpAny_seqItems gI rfl, wpAny_field gz rfl c0, wpAny_field gz rfl c4, wpAny_setField_rec gz z0
  intro h1 z1 r1
  have q1 : Rest [z] hp h1 := .but r1 (by simp)
  wp_walk
  refine p1.behind (f := fun x => pure (some x)) (k := fun _ => setField (.ref z) 0 .none) (k1 _ _ (q1.sub (by simp)) a1) ⟨fun x h2 e2 b2 r2 => ?_, fun e h2 e2 r2 st => ?_⟩
  · have O2 : IsPair h2 O a b := r2.extBut _ _ n2 (r1.extBut _ _ n1 gO)
    wp_walk using wpAny_seqItems O2 rfl, wpAny_updateSeq_pair O2
    intro h3 O3 r3
    wp_walk using wpAny_letGo
    have q3 : Rest [z, O, i] hp h3 := ((q1.sub (by simp)).trans (.but r2 (by simp))).trans (.but r3 (by simp))
    refine p2.behind (f := fun x => pure (some x)) (k := fun _ => setField (.ref z) 0 .none) (k2 _ _ q3 a2) ⟨fun y h4 e4 b4 r4 => ?_, fun e h4 e4 r4 st => ?_⟩
    · have O4 : IsPair h4 O x b := r4.extBut _ _ n3 O3
      wp_walk using wpAny_seqItems O4 rfl, wpAny_updateSeq_pair O4
      intro h5 O5 r5
      have O5' : IsPair h5 O x y := O5
      have q5 : Rest [z, O, i, j] hp h5 := ((q3.sub (by simp)).trans (.but r4 (by simp))).trans (.but r5 (by simp))
      have z5 : IsZip h5 z I O .ellipsis := r5.extBut _ _ n1.symm (r4.extBut _ _ n5.symm (r3.extBut _ _ n1.symm (r2.extBut _ _ n4.symm z1)))
      have sz : h5.objs.size = hp.objs.size := (((r5.1.trans r4.1).trans r3.1).trans r2.1).trans r1.1
      have lt : z < h5.objs.size := Heap.lt_size z5
      have z6 : IsZip (h5.push { cls := .type "tuple", data := .seq #[x, y].toList.toArray }) z I O .ellipsis := Heap.get?_push_of_some _ z5
      wp_walk using wpAny_letGo, wpAny_seqItems O5' rfl
      have z8 := Heap.get?_update_self (Obj.mapFields fun v => v.setIfInBounds 1 (Value.bool false)) (Heap.get?_update_self (Obj.mapFields fun v => v.setIfInBounds 0 (rawInt h5.objs.size)) z6 rfl) rfl
      have r8 : Rest [z] (h5.push { cls := .type "tuple", data := .seq #[x, y].toList.toArray }) _ := (Rest.but (b := z) (Heap.SameBut.update (f := Obj.mapFields fun v => v.setIfInBounds 0 (rawInt h5.objs.size)) ..) (by simp)).trans (Rest.but (b := z) (Heap.SameBut.update (f := Obj.mapFields fun v => v.setIfInBounds 1 (Value.bool false)) ..) (by simp))
      have q8 := (Rest.new _).trans r8
      have T8 := r8 h5.objs.size _ (by simp; exact Nat.ne_of_gt lt) (Heap.get?_push_size _ rfl)
      simp only [← sz] at go
      exact go x y _ e2 e4 z8 (q8 _ _ (by simp [n1]) O5') T8 (k3 _ _ ((((Rest.but (S := [z, O, j]) r3 (by simp)).trans (.but r4 (by simp))).trans (.but r5 (by simp))).trans (q8.sub (T := [z, O, j]) (by simp))) b2)
        (k4 _ _ ((Rest.but (S := [z, O, i]) r5 (by simp)).trans (q8.sub (T := [z, O, i]) (by simp))) b4) (q5.trans (q8.sub (T := [z, O, i, j]) (by simp)))
    · exact freed (r4 _ _ n5.symm (r3.extBut _ _ n1.symm (r2.extBut _ _ n4.symm z1))) st fun h5 r5 st' =>
        stop e h5 (.inr e4) (((q3.sub (by simp)).trans (.ext r4 (by simp))).trans (r5.sub (by simp))) st'
  · exact freed (r2 _ _ n4.symm z1) st fun h3 r3 st' => stop e h3 (.inl e2) (((q1.sub (by simp)).trans (.ext r2 (by simp))).trans (r3.sub (by simp))) st'
end
end Zo

set_option maxHeartbeats 4000000
namespace Zn
open PySem PySem.Spec PyProof.Rows
open Sem (wp)
section
variable {prog : Program} {w : World} {A : Around} {E : Value → Shared → Prop} {hp : Heap} {g : Array GenState} {d : Drawn} {tk : Nat} {os : OsState} {it l : Addr} {i n : Nat} {its : Array Value} {oi ol : Obj} {R : PySem.Fin → Shared → Prop}
theorem tup_step (hh : its[i]? = none → A.handled = none) (gi : hp.get? it = some oi) (di : oi.data = .fields #[.ref l, .int i 0]) (gl : hp.get? l = some ol) (dl : ol.data = .seq its n)
    (go : ∀ x, its[i]? = some x → R (.done (.ret x)) ⟨hp.update it (Obj.mapFields (·.setIfInBounds 1 (rawInt (i + 1)))), g, d, tk, os⟩)
    (stop : ∀ h' e, its[i]? = none → Heap.ExtBut it hp h' → (∃ o, h'.get? e = some o ∧ o.cls = .type "StopIteration") → E (.ref e) ⟨h', g, d, tk, os⟩) :
    wpAny (model prog w) A (Builtin.«tuple_iterator.__next__» ⟨[.ref it], []⟩) R E ⟨hp, g, d, tk, os⟩ := by
  have f0 : (#[Value.ref l, .int i 0] : Array Value)[0]? = some (.ref l) := rfl
  have f1 : (#[Value.ref l, .int i 0] : Array Value)[1]? = some (.int i 0) := rfl
  have z0 : 0 < (#[Value.ref l, .int i 0] : Array Value).size := by simp
  have z1 : 1 < (#[Value.ref l, .int i 0] : Array Value).size := by simp
  wp_walk using wpAny_field gi di f0, wpAny_field gi di f1, wpAny_seqItems gl dl
  rw [Int.toNat_natCast]
  cases hx : its[i]? with
  | some x =>
    dsimp only
    wp_walk using wpAny_setField gi di z1
    exact go x hx
  | none =>
    dsimp only
    have h0 := hh hx
    wp_walk using wpAny_setField gi di z0
    exact wpAny_raiseNew_none h0 (stop _ _ hx (((Heap.SameBut.update ..).extBut.push _).push _) ⟨_, Heap.get?_push_size _ rfl, rfl⟩)
end
end Zn

set_option maxHeartbeats 4000000
/-! zip of two lists or tuples, made and walked -/
namespace Zp
open PySem PySem.Spec PyProof.Rows Zo
open Sem (wp)
def Dat (t : Bool) (h : Heap) (l : Addr) (xs : Array Value) : Prop := if t then h.IsTuple l xs else h.IsList l xs
def Itr (t : Bool) (h : Heap) (it l : Addr) (i : Nat) : Prop := if t then h.IsTupleIter it l i else h.IsListIter it l i
theorem Dat.at {t : Bool} {h h' : Heap} {l : Addr} {xs : Array Value} (d : Dat t h l xs) (e : ∀ o, h.get? l = some o → h'.get? l = some o) : Dat t h' l xs := by
  cases t <;> exact let ⟨o, q, r⟩ := d; ⟨o, e o q, r⟩
theorem Itr.at {t : Bool} {h h' : Heap} {it l : Addr} {i : Nat} (d : Itr t h it l i) (e : ∀ o, h.get? it = some o → h'.get? it = some o) : Itr t h' it l i := by
  cases t <;> exact let ⟨o, q, r⟩ := d; ⟨o, e o q, r⟩
theorem Itr.obj {t : Bool} {h : Heap} {it l : Addr} {i : Nat} (d : Itr t h it l i) : ∃ o, h.get? it = some o ∧ ∀ v, o.data ≠ .cell v := by
  cases t <;> exact let ⟨o, e, _, q⟩ := d; ⟨o, e, fun v z => by rw [q] at z; cases z⟩
theorem Dat.push {t : Bool} {h : Heap} {l : Addr} {xs : Array Value} (d : Dat t h l xs) (o : Obj) : Dat t (h.push o) l xs := d.at fun _ q => Heap.get?_push_of_some _ q
def Stand (t : Bool) (it l : Addr) (k : Nat) (xs : Array Value) (h : Heap) : Prop := Itr t h it l k ∧ Dat t h l xs
theorem Stand.stays {t : Bool} {it l : Addr} {k : Nat} {xs : Array Value} {S : List Addr} (a : it ∉ S) (b : l ∉ S) : Stays S (Stand t it l k xs) := fun h h' r d => ⟨d.1.at fun o q => r _ o a q, d.2.at fun o q => r _ o b q⟩
section
variable {prog : Program} {w : World} {A : Around}
theorem via {E : Value → Shared → Prop} {T id : String} {f : Builtin} {a : Addr} {s : Shared} {Q : Option Value → Shared → Prop} (sl : Slot T (Str.ofString "__next__") id) (en : entryFor table id = some f) (ar : argsOk id ⟨[.ref a], []⟩) (ty : s.TypeIs (.ref a) T)
    (h : wpAny (model prog w) A.in1 (f ⟨[.ref a], []⟩) (fun r s' => ∃ v, r = .done (.ret v) ∧ Q (some v) s') E s) : wpAny (model prog w) A (callSpecial? (.ref a) (Str.ofString "__next__")) Q E s :=
  wpAny_callSpecial?_slot ty sl (wpAny_call_entry sl ty en h ar)
theorem pull {t : Bool} {it l : Addr} {k : Nat} {xs : Array Value} (hh : A.handled = none) : Pull prog w A it (Stand t it l k xs) (Stand t it l (k + 1) xs) xs[k]? := by
  intro Q E hp g d tk os st td
  have nl : ∀ {h'}, Heap.SameBut it hp h' → l ≠ it → Dat t h' l xs := fun r n => st.2.at fun o q => r.extBut _ _ n q
  cases t with
  | false =>
    obtain ⟨a, b⟩ : hp.IsListIter it l k ∧ hp.IsList l xs := st
    have n : l ≠ it := by
      rintro rfl
      obtain ⟨o, q, _, r⟩ := a
      obtain ⟨o', q', _, _, r'⟩ := b
      rw [q] at q'; cases q'; rw [r] at r'; cases r'
    cases hx : xs[k]? with
    | some x => exact wpAny_nextOf_list_item a b hx fun h' i r => td.1 x h' hx ⟨i, nl r n⟩ r
    | none => exact wpAny_nextOf_list_end hh a b hx fun h' e r s => td.2 e h' hx r s
  | true =>
    obtain ⟨a, b⟩ : hp.IsTupleIter it l k ∧ hp.IsTuple l xs := st
    have ty : (⟨hp, g, d, tk, os⟩ : Shared).TypeIs (.ref it) "tuple_iterator" := a.typeIs
    obtain ⟨o, q, c, r⟩ := a
    obtain ⟨o', q', c', m, r'⟩ := b
    have n : l ≠ it := by rintro rfl; rw [q] at q'; cases q'; rw [r] at r'; cases r'
    unfold Builtin.SmallTypes.nextOf
    refine wpAny_bind (via F.slot_tuple_iterator_next F.entry_tuple_iterator_next (F.args_tuple_iterator_next_1 _) ty (Zn.tup_step (fun _ => hh) q r q' r' (fun x hx => ⟨x, rfl, wpAny_pure (td.1 x _ hx ?_ (Heap.SameBut.update ..))⟩) fun h' e hx ex s => td.2 e h' hx ex s))
    refine ⟨(⟨_, Heap.get?_update_self _ q (Obj.isFreed_of_fields (Obj.data_mapFields r _)), (Obj.cls_mapFields ..).trans c, ?_⟩ : Heap.IsTupleIter _ it l (k + 1)), nl (Heap.SameBut.update ..) n⟩
    rw [Obj.data_mapFields r]
    rfl
variable {E : Value → Shared → Prop}
theorem next_zip {t1 t2 : Bool} {z I O i j l m : Addr} {k1 k2 : Nat} {xs ys : Array Value} {a b : Value} {Q : Option Value → Shared → Prop} {s : Shared} (hh : A.handled = none) (D : ZipApart z I O i j l m)
    (gz : IsZip s.heap z I O .none) (gI : IsPair s.heap I (.ref i) (.ref j)) (gO : IsPair s.heap O a b) (d1 : Stand t1 i l k1 xs s.heap) (d2 : Stand t2 j m k2 ys s.heap)
    (go : ∀ x y h', xs[k1]? = some x → ys[k2]? = some y → IsZip h' z I O (rawInt s.heap.objs.size) → IsPair h' O x y → IsPair h' s.heap.objs.size x y → Stand t1 i l (k1 + 1) xs h' → Stand t2 j m (k2 + 1) ys h' →
      Rest [z, O, i, j] s.heap h' → Q (some (.ref s.heap.objs.size)) ⟨h', s.gens, s.drawn, s.toks, s.os⟩)
    (stop : ∀ h', xs[k1]? = none ∨ ys[k2]? = none → Rest [z, O, i, j] s.heap h' → Q none ⟨h', s.gens, s.drawn, s.toks, s.os⟩) : wpAny (model prog w) A (pyNext (.ref z)) Q E s := by
  obtain ⟨hp, g, d, tk, os⟩ := s
  unfold pyNext
  refine wpAny_bind (wpAny_attempt (via F.slot_zip_next F.entry_zip_next (F.args_zip_next_1 _) ⟨_, gz, rfl⟩ (step gz gI gO ⟨D.TOz, D.TOi1, D.TOi2, D.i1z, D.i2z⟩ (pull (A := A.in1) hh) (pull (A := A.in1) hh) d1 d2 ?_ ?_ ?_ ?_ ?_ ?_)))
  · exact Stand.stays (by simp [D.i1z, D.TOi1.symm, D.i12]) (by simp [D.l1z, D.l1TO, D.l1i2])
  · exact Stand.stays (by simp [D.i2z, D.TOi2.symm, D.i12.symm]) (by simp [D.l2z, D.l2TO, D.l2i1])
  · exact Stand.stays (by simp [D.i1z, D.TOi1.symm, D.i12]) (by simp [D.l1z, D.l1TO, D.l1i2])
  · exact Stand.stays (by simp [D.i2z, D.TOi2.symm, D.i12.symm]) (by simp [D.l2z, D.l2TO, D.l2i1])
  · exact fun x y h' e1 e2 b1 b2 b3 b4 b5 b6 => ⟨_, rfl, wpAny_pure (go x y h' e1 e2 b1 b2 b3 b4 b5 b6)⟩
  · rintro e h' n r ⟨o, q, c⟩
    exact wpAny_bind (wpAny_isInstance (b := true) ⟨o, q, c⟩ isSubtype_stop (wpAny_pure (stop h' n r)))
end
/-! zip(..) made -/
abbrev itObj (t : Bool) (l : Addr) : Obj := { cls := .type (if t then "tuple_iterator" else "list_iterator"), data := .fields #[.ref l, .int 0 0] }
theorem itr_new {t : Bool} {h : Heap} {it l : Addr} (e : h.get? it = some (itObj t l)) : Itr t h it l 0 := by
  cases t <;> exact ⟨_, e, rfl, rfl⟩
theorem push5 {h : Heap} {o0 o1 o2 o3 o4 : Obj} (f0 : o0.isFreed = false) (f1 : o1.isFreed = false) (f2 : o2.isFreed = false) (f3 : o3.isFreed = false) (f4 : o4.isFreed = false) {H : Heap} (e : H = ((((h.push o0).push o1).push o2).push o3).push o4) :
    H.get? h.objs.size = some o0 ∧ H.get? (h.objs.size + 1) = some o1 ∧ H.get? (h.objs.size + 2) = some o2 ∧ H.get? (h.objs.size + 3) = some o3 ∧ H.get? (h.objs.size + 4) = some o4 ∧ ∀ c o, h.get? c = some o → H.get? c = some o := by
  subst e
  have w : ∀ {h : Heap} {a : Addr} {o o' : Obj}, h.get? a = some o → (h.push o').get? a = some o := fun q => Heap.get?_push_of_some _ q
  have s1 : (h.push o0).objs.size = h.objs.size + 1 := Heap.size_push ..
  have s2 : ((h.push o0).push o1).objs.size = h.objs.size + 2 := by rw [Heap.size_push, s1]
  have s3 : (((h.push o0).push o1).push o2).objs.size = h.objs.size + 3 := by rw [Heap.size_push, s2]
  have s4 : ((((h.push o0).push o1).push o2).push o3).objs.size = h.objs.size + 4 := by rw [Heap.size_push, s3]
  refine ⟨w (w (w (w (Heap.get?_push_size _ f0)))), ?_, ?_, ?_, ?_, fun c o q => w (w (w (w (w q))))⟩
  · rw [← s1]; exact w (w (w (Heap.get?_push_size _ f1)))
  · rw [← s2]; exact w (w (Heap.get?_push_size _ f2))
  · rw [← s3]; exact w (Heap.get?_push_size _ f3)
  · rw [← s4]; exact Heap.get?_push_size _ f4
structure New (t1 t2 : Bool) (h h' : Heap) (l m : Addr) : Prop where
  z : IsZip h' (h.objs.size + 4) (h.objs.size + 2) (h.objs.size + 3) .none
  I : IsPair h' (h.objs.size + 2) (.ref h.objs.size) (.ref (h.objs.size + 1))
  O : IsPair h' (h.objs.size + 3) .none .none
  i : Itr t1 h' h.objs.size l 0
  j : Itr t2 h' (h.objs.size + 1) m 0
  k : Rest [] h h'
section
variable {prog : Program} {w : World} {A : Around} {E : Value → Shared → Prop} {s : Shared}
theorem iter_dat {t : Bool} {l : Addr} {xs : Array Value} {Q : Value → Shared → Prop} (hl : Dat t s.heap l xs) (h : Q (.ref s.heap.objs.size) { s with heap := s.heap.push (itObj t l) }) : wpAny (model prog w) A (pyIter (.ref l)) Q E s := by
  cases t
  · exact wpAny_pyIter_list (show s.heap.IsList l xs from hl) h
  · exact wpAny_pyIter_tuple (show s.heap.IsTuple l xs from hl) h
theorem meets_zip (t1 t2 : Bool) (l m : Addr) (xs ys : Array Value) :
    Meets (Builtin.«zip.__new__» ⟨[.type "zip", .ref l, .ref m], []⟩) (fun _ R s => Dat t1 s.heap l xs ∧ Dat t2 s.heap m ys ∧
      ∀ h', New t1 t2 s.heap h' l m → R (.ok (.ret (.ref (s.heap.objs.size + 4)))) { s with heap := h' }) :=
  .of_wp fun prog w A R s h => by
    rcases s with ⟨hp, g, d, tk, os⟩
    rcases h with ⟨b1, b2, h⟩
    have hsub := sub_zip
    have L1 : Dat t1 (Shared.heap ⟨hp, g, d, tk, os⟩) l xs := b1
    have L2 : Dat t2 (Shared.heap ⟨hp.push (itObj t1 l), g, d, tk, os⟩) m ys := b2.push _
    wp_walk using iter_dat L1, iter_dat L2
    have key : ∀ n1 n2 n3 n4, n1 = hp.objs.size + 1 → n2 = hp.objs.size + 2 → n3 = hp.objs.size + 3 → n4 = hp.objs.size + 4 →
        R (.ok (.ret (.ref n4))) ⟨((((hp.push (itObj t1 l)).push (itObj t2 m)).push { cls := .type "tuple", data := .seq #[.ref hp.objs.size, .ref n1] }).push { cls := .type "tuple", data := .seq #[.none, .none] }).push
          { cls := .type "zip", data := .fields #[.none, .bool false, .bool false, .ref n2, .ref n3] }, g, d, tk, os⟩ := by
      rintro _ _ _ _ rfl rfl rfl rfl
      obtain ⟨a0, a1, a2, a3, a4, a5⟩ := push5 (h := hp) (o0 := itObj t1 l) (o1 := itObj t2 m) (o2 := { cls := .type "tuple", data := .seq #[.ref hp.objs.size, .ref (hp.objs.size + 1)] }) (o3 := { cls := .type "tuple", data := .seq #[.none, .none] })
        (o4 := { cls := .type "zip", data := .fields #[.none, .bool false, .bool false, .ref (hp.objs.size + 2), .ref (hp.objs.size + 3)] }) rfl rfl rfl rfl rfl rfl
      exact h _ ⟨a4, a2, a3, itr_new a0, itr_new a1, fun c o _ q => a5 c o q⟩
    exact ⟨_, rfl, key _ _ _ _ (by simp only [Heap.size_push]) (by simp only [Heap.size_push]) (by simp only [Heap.size_push]) (by simp only [Heap.size_push])⟩
theorem call_zip {t1 t2 : Bool} {l m : Addr} {xs ys : Array Value} {Q : Value → Shared → Prop} (b1 : Dat t1 s.heap l xs) (b2 : Dat t2 s.heap m ys)
    (k : ∀ h', New t1 t2 s.heap h' l m → Q (.ref (s.heap.objs.size + 4)) { s with heap := h' }) : wpAny (model prog w) A (call (.type "zip") [.ref l, .ref m]) Q E s :=
  callType_new F.called_zip (by decide) (F.typeCall_zip_2 _ _) (F.newCall_zip_2 _ _) (fun o => F.args_object_init_3 o _ _) F.entry_zip_new (meets_zip t1 t2 l m xs ys) ⟨b1, b2, fun h' n => ⟨⟨_, n.z, rfl⟩, k h' n⟩⟩
end
end Zp

set_option maxHeartbeats 4000000
namespace L2
open PySem PySem.Spec PyProof.Rows
section
variable {X : Cx} {pins : List (Addr × Obj)} {σ : St} {H : Hp} {s : Shared} {h' : Heap}
theorem Inv.turnedL {t' : Nat} {ch : List Addr} (I : Inv X pins σ H s) (k : ∀ b o, b ∉ ch → s.heap.get? b = some o → h'.get? b = some o) (hf : ∀ b ∈ ch, FpOk X pins H b) : Inv X pins σ H { s with heap := h', toks := t' } := by
  have nit : ∀ b u, H b = some u → b ∉ ch := fun b u e z => by rw [(hf b z).1] at e; cases e
  refine I.step (g' := s.gens) (d' := s.drawn) (ch := ch) (fun b hb => ⟨(hf b hb).2.2.2.1, (hf b hb).2.1, (hf b hb).2.2.2.2.1, (hf b hb).2.2.2.2.2⟩) (fun b o _ _ hc e _ => k b o hc e) (fun b o _ _ hc e _ => ⟨o.slots, k b o hc e⟩) (fun _ _ _ _ n => n)
    (fun b o hc e => ⟨o, k b o hc e⟩) (fun _ _ e => e) (fun _ _ _ e => e) (fun b ps e => ⟨#[], by rw [e]; simp⟩) (fun m hm => ?_) (fun b u e => ?_) I.bare
  · obtain ⟨o, es, ep, ho, r⟩ := hm
    exact ⟨o, es, ep, k _ o (fun z => (hf _ z).2.1 rfl) ho, r⟩
  · refine (I.hok b u e).stay (fun c v hc q => k c v ?_ q) (fun _ q => q) fun _ _ q => q
    rcases hc with z | z
    · rw [z]; exact nit b u e
    · exact nit c _ z
theorem Inv.turnedT {t' : Nat} {ch : List Addr} {T : Addr} {xs : List V} {its : List Value} (I : Inv X pins σ H s) (k : ∀ b o, b ∉ ch → s.heap.get? b = some o → h'.get? b = some o) (hf : ∀ b ∈ ch, FpOk X pins H b) (hT : s.heap.objs.size ≤ T) (hv : Vals xs its) (hz : xs.length ≤ sizeLine) (ht : IsTup h' T its.toArray) :
    Inv X pins σ (upd H T (.tup xs)) { s with heap := h', toks := t' } := by
  have nit : ∀ b u, H b = some u → b ∉ ch := fun b u e z => by rw [(hf b z).1] at e; cases e
  have hTn : H T = none := I.hok.fresh hT
  have neT : ∀ b o, s.heap.get? b = some o → b ≠ T := fun b o e => Nat.ne_of_lt (Nat.lt_of_lt_of_le (Heap.lt_size e) hT)
  have neH : ∀ b u, H b = some u → b ≠ T := fun b u e z => by rw [z, hTn] at e; cases e
  refine I.step (g' := s.gens) (d' := s.drawn) (ch := ch) (fun b hb => ⟨(hf b hb).2.2.2.1, (hf b hb).2.1, (hf b hb).2.2.2.2.1, (hf b hb).2.2.2.2.2⟩) (fun b o _ _ hc e _ => k b o hc e) (fun b o _ _ hc e _ => ⟨o.slots, k b o hc e⟩)
    (fun b o _ e n => by rw [upd_ne (neT b o e)]; exact n)
    (fun b o hc e => ⟨o, k b o hc e⟩) (fun b ys e => by rw [upd_ne (neH b _ e)]; exact e) (fun b o u e => by rw [upd_ne (neH b _ e)]; exact e) (fun b ps e => ⟨#[], by rw [upd_ne (neH b _ e), e]; simp⟩) (fun m hm => ?_) (fun b u e => ?_) I.bare
  · obtain ⟨o, es, ep, ho, r⟩ := hm
    exact ⟨o, es, ep, k _ o (fun z => (hf _ z).2.1 rfl) ho, r⟩
  · by_cases hb : b = T
    · subst hb
      rw [upd_same] at e
      cases e
      exact ⟨hz, its, hv, ht⟩
    · rw [upd_ne hb] at e
      refine (I.hok b u e).stay (fun c v hc q => k c v ?_ q) (fun c q => by rw [upd_ne (neH c _ q)]; exact q) fun c ys q => by rw [upd_ne (neH c _ q)]; exact q
      rcases hc with z | z
      · rw [z]; exact nit b u e
      · exact nit c _ z
end
def SqX (t : Bool) (K : PySem.W.Frag) (H : Hp) (a : Addr) (xs : List V) : Prop := if t then SqT K H a xs else SqL K H a xs
theorem Inv.sqx {X : Cx} {pins : List (Addr × Obj)} {σ : St} {H : Hp} {s : Shared} {t : Bool} {a : Addr} {xs : List V} (I : Inv X pins σ H s) (h : SqX t X.K H a xs) : ∃ its : List Value, Vals xs its ∧ Zp.Dat t s.heap a its.toArray ∧ xs.length ≤ sizeLine := by
  cases t
  · obtain ⟨its, v, p, z⟩ := I.list (show SqL X.K H a xs from h)
    exact ⟨its, v, p.isList, z⟩
  · obtain ⟨its, v, p, z⟩ := I.tuple (show SqT X.K H a xs from h)
    exact ⟨its, v, p, z⟩
theorem Inv.sqx_inj {X : Cx} {pins : List (Addr × Obj)} {σ : St} {H : Hp} {s : Shared} {t : Bool} {a : Addr} {xs ys : List V} (I : Inv X pins σ H s) (h : SqX t X.K H a xs) (h' : SqX t X.K H a ys) : xs = ys := by
  cases t
  · exact I.list_inj (show SqL X.K H a xs from h) h'
  · exact I.tuple_inj (show SqT X.K H a xs from h) h'
def Itz (t1 t2 : Bool) (K : PySem.W.Frag) (l1 l2 : Addr) : It :=
  ⟨fun i H => ∃ xs x ys y, SqX t1 K H l1 xs ∧ xs[i]? = some x ∧ SqX t2 K H l2 ys ∧ ys[i]? = some y,
   fun i H v H' => ∃ T x y, v = .ref T ∧ H T = none ∧ H' = upd H T (.tup [x, y]) ∧ (∀ xs, SqX t1 K H l1 xs → xs[i]? = some x) ∧ ∀ ys, SqX t2 K H l2 ys → ys[i]? = some y,
   fun i H => ∃ xs ys, SqX t1 K H l1 xs ∧ SqX t2 K H l2 ys ∧ (xs.length ≤ i ∨ ys.length ≤ i)⟩
theorem turn_zip {P : Program} {w : World} {K : PySem.W.Frag} {es : List Expr} {kk : Nat} {tp : Pos} {t1 t2 : Bool} {z TI TO i1 i2 l1 l2 : Addr} (D : ZipApart z TI TO i1 i2 l1 l2) :
    Turn P w K (.Tuple es kk tp) (Itz t1 t2 K l1 l2) [z, TI, TO, i1, i2] z (fun i h => IsZip h z TI TO .none ∧ IsPair h TI (.ref i1) (.ref i2) ∧ (∃ a b, IsPair h TO a b) ∧ Zp.Itr t1 h i1 l1 i ∧ Zp.Itr t2 h i2 l2 i) where
  mem := by simp
  obj := fun i h st b hb => by
    obtain ⟨a1, a2, ⟨x, y, a3⟩, a4, a5⟩ := st
    simp only [List.mem_cons, List.not_mem_nil, or_false] at hb
    rcases hb with rfl | rfl | rfl | rfl | rfl
    · exact ⟨_, a1, fun v q => by have q' : Data.fields _ = Data.cell v := q; cases q'⟩
    · exact ⟨_, a2, fun v q => by have q' : Data.seq _ _ = Data.cell v := q; cases q'⟩
    · exact ⟨_, a3, fun v q => by have q' : Data.seq _ _ = Data.cell v := q; cases q'⟩
    · exact a4.obj
    · exact a5.obj
  keep := fun i h h' st k => by
    obtain ⟨a1, a2, ⟨x, y, a3⟩, a4, a5⟩ := st
    exact ⟨k z (by simp) _ a1, k TI (by simp) _ a2, ⟨x, y, k TO (by simp) _ a3⟩, a4.at fun o e => k i1 (by simp) o e, a5.at fun o e => k i2 (by simp) o e⟩
  item := by
    intro X hP hw hK hc i pins s σ H E I hf st hg
    subst hP hw hK
    obtain ⟨xs, x, ys, y, q1, hx, q2, hy⟩ := hg
    obtain ⟨a1, a2, ⟨u1, u2, a3⟩, a4, a5⟩ := st
    obtain ⟨its, rv, dt, hz⟩ := I.sqx q1
    obtain ⟨its', rv', dt', hz'⟩ := I.sqx q2
    obtain ⟨vx, hvx, rx⟩ := rv.get hx
    obtain ⟨vy, hvy, ry⟩ := rv'.get hy
    refine Zp.next_zip (I.ok.hd hc) D a1 a2 a3 (d1 := ⟨a4, dt⟩) (d2 := ⟨a5, dt'⟩) (fun wx wy h' f1 f2 b1 b2 b5 b3 b4 bk => ?_) (fun h' n _ => ?_)
    rotate_left
    · exfalso
      rcases n with n | n
      · rw [show its.toArray[i]? = some vx by simpa using hvx] at n; cases n
      · rw [show its'.toArray[i]? = some vy by simpa using hvy] at n; cases n
    obtain rfl : vx = wx := Option.some.inj ((show its.toArray[i]? = some vx by simpa using hvx).symm.trans f1)
    obtain rfl : vy = wy := Option.some.inj ((show its'.toArray[i]? = some vy by simpa using hvy).symm.trans f2)
    refine ⟨_, rfl, wpAny_letOwnedTupleGo_zip b1 fun h2 c1 sb => ?_⟩
    have zT : s.heap.objs.size ≠ z := Nat.ne_of_gt (Heap.lt_size a1)
    have k2 : ∀ b o, b ∉ [z, TI, TO, i1, i2] → s.heap.get? b = some o → h2.get? b = some o := fun b o hb e => by
      simp only [List.mem_cons, List.not_mem_nil, or_false, not_or] at hb
      exact sb.extBut b o hb.1 (bk b o (by simp [hb]) e)
    have hT : IsTup h2 s.heap.objs.size ([vx, vy] : List Value).toArray := ⟨_, sb.extBut _ _ zT b5, rfl, _, rfl⟩
    refine ⟨.ref s.heap.objs.size, upd H s.heap.objs.size (.tup [x, y]), I.turnedT (t' := s.toks) k2 hf (Nat.le_refl _) (.cons rx (.cons ry .nil)) (by show 2 ≤ sizeLine; decide) hT, rfl, ⟨_, x, y, rfl, I.hok.fresh (Nat.le_refl _), rfl, fun xs' h1 => ?_, fun ys' h1 => ?_⟩, ⟨c1, ?_, ⟨vx, vy, ?_⟩, ?_, ?_⟩, fun b hb => ?_⟩
    · rw [I.sqx_inj h1 q1]; exact hx
    · rw [I.sqx_inj h1 q2]; exact hy
    · exact sb.extBut _ _ D.TIz (bk _ _ (by simp [D.TIz, D.TITO, D.TIi1, D.TIi2]) a2)
    · exact sb.extBut _ _ D.TOz b2
    · exact b3.1.at fun o q => sb.extBut _ _ D.i1z q
    · exact b4.1.at fun o q => sb.extBut _ _ D.i2z q
    · have hlt : b < s.heap.objs.size := by
        simp only [List.mem_cons, List.not_mem_nil, or_false] at hb
        rcases hb with rfl | rfl | rfl | rfl | rfl
        · exact Heap.lt_size a1
        · exact Heap.lt_size a2
        · exact Heap.lt_size a3
        · obtain ⟨o, e, _⟩ := a4.obj; exact Heap.lt_size e
        · obtain ⟨o, e, _⟩ := a5.obj; exact Heap.lt_size e
      rw [upd_ne (Nat.ne_of_lt hlt)]
      exact (hf b hb).1
  done := by
    intro X hP hw hK hc i pins s σ H E I hf st hg
    subst hP hw hK
    obtain ⟨xs, ys, q1, q2, hend⟩ := hg
    obtain ⟨a1, a2, ⟨u1, u2, a3⟩, a4, a5⟩ := st
    obtain ⟨its, rv, dt, hz⟩ := I.sqx q1
    obtain ⟨its', rv', dt', hz'⟩ := I.sqx q2
    have e1 := rv.length
    have e2 := rv'.length
    have hend' : its.toArray[i]? = none ∨ its'.toArray[i]? = none := by
      rcases hend with h | h
      · left; simp; omega
      · right; simp; omega
    refine Zp.next_zip (I.ok.hd hc) D a1 a2 a3 (d1 := ⟨a4, dt⟩) (d2 := ⟨a5, dt'⟩) (fun wx wy h' f1 f2 b1 b2 b5 b3 b4 bk => ?_) (fun h' n bk => ⟨rfl, I.turnedL (t' := s.toks) (fun b o hb e => ?_) hf⟩)
    · exfalso
      rcases hend' with n | n
      · rw [f1] at n; cases n
      · rw [f2] at n; cases n
    · simp only [List.mem_cons, List.not_mem_nil, or_false, not_or] at hb
      exact bk b o (by simp [hb]) e
  self := fun _ _ _ _ _ st h => wpAny_pyIter_zip st.1 h
section
variable {X : Cx} {es : List Expr} {kk : Nat} {tp : Pos}
def iZip (t1 t2 : Bool) (K : PySem.W.Frag) (ta : TA) : TI := fun σ H R => ta σ H fun vs H1 => ∃ l1 l2 xs ys, vs = [.ref l1, .ref l2] ∧ SqX t1 K H1 l1 xs ∧ SqX t2 K H1 l2 ys ∧ R (Itz t1 t2 K l1 l2) H1
theorem pi_zip (t1 t2 : Bool) {a b : Expr} {ta : TA} {p pos : Pos} (hg : Gl X "zip") (hm : X.mg "zip" = none) (ha : PA X [a, b] ta) (hs : starEach [a, b] X.env = [(false, eval a X.env), (false, eval b X.env)] := by rfl) (hs2 : starEach [b] X.env = [(false, eval b X.env)] := by rfl) :
    PI X (.Tuple es kk tp) (.Call (.Name "zip" p) [a, b] [] pos) (iZip t1 t2 X.K ta) := by
  intro pins s σ H R I h
  refine Call_ (ld_blt I hg hm boot_zip (PyProof.Rows.callWith_type1 (thn (ha pos pins s σ H _ I h) fun us s1 ⟨vs, H1, I1, r1, q1⟩ => ?_) (by rw [hs, hs2]) (by rw [hs2]; rfl)))
  obtain ⟨l1, l2, xs, ys, e, h1, h2, q⟩ := q1
  subst e
  cases r1 with
  | cons r rr =>
    cases rr with
    | cons r' rr =>
      cases rr
      cases r
      cases r'
      obtain ⟨its, rv, dt, hz⟩ := I1.sqx h1
      obtain ⟨its', rv', dt', hz'⟩ := I1.sqx h2
      refine Zp.call_zip dt dt' fun h' ⟨z1, z2, z3, z4, z5, zk'⟩ => ?_
      have zk : ∀ c o, s1.heap.get? c = some o → h'.get? c = some o := fun c o q => zk' c o (by simp) q
      have I2 : Inv X pins σ H1 { s1 with heap := h' } := I1.kept (t' := s1.toks) zk
      have lt1 : l1 < s1.heap.objs.size := by
        cases t1
        · obtain ⟨o, e, _⟩ := (show s1.heap.IsList l1 _ from dt); exact Heap.lt_size e
        · obtain ⟨o, e, _⟩ := (show s1.heap.IsTuple l1 _ from dt); exact Heap.lt_size e
      have lt2 : l2 < s1.heap.objs.size := by
        cases t2
        · obtain ⟨o, e, _⟩ := (show s1.heap.IsList l2 _ from dt'); exact Heap.lt_size e
        · obtain ⟨o, e, _⟩ := (show s1.heap.IsTuple l2 _ from dt'); exact Heap.lt_size e
      have D : ZipApart (s1.heap.objs.size + 4) (s1.heap.objs.size + 2) (s1.heap.objs.size + 3) s1.heap.objs.size (s1.heap.objs.size + 1) l1 l2 := zipApart_new lt1 lt2
      refine wpAny_pyIter_zip z1 ⟨_, _, _, _, H1, rfl, I2, turn_zip D, ⟨z1, z2, ⟨_, _, z3⟩, z4, z5⟩, fun b hb => ?_, q⟩
      have hge : s1.heap.objs.size ≤ b := by
        simp only [List.mem_cons, List.not_mem_nil, or_false] at hb
        rcases hb with rfl | rfl | rfl | rfl | rfl
        · exact Nat.le_add_right _ _
        · exact Nat.le_add_right _ _
        · exact Nat.le_add_right _ _
        · exact Nat.le_refl _
        · exact Nat.le_add_right _ _
      exact I1.fpOk hge (I1.hok.fresh hge)
end
theorem lc_zip {t1 t2 : Bool} {K : PySem.W.Frag} {l1 l2 : Addr} {g : TG} {xs ys : List V} {te : TE} {fr : St} {H1 : Hp} {acc : Addr} {Q : VK} (Pv : Nat → List V → Hp → Prop) (hxy : xs.length = ys.length) (hn : xs.length ≤ sizeLine) (h0 : Pv 0 [] (upd H1 acc (.lst [])))
    (hg : ∀ {a : Addr} {x y v1 v2 : V} {w1 w2 : Option V} {H : Hp} {Q : St → Hp → Prop}, H a = some (.tup [x, y]) → Q (some x :: some y :: fr) H → g (.ref a) (w1 :: w2 :: fr) H Q)
    (hl : ∀ i zs H, Pv i zs H → SqX t1 K H l1 xs ∧ SqX t2 K H l2 ys)
    (hs : ∀ i x y zs H T (N : V → Hp → Prop), xs[i]? = some x → ys[i]? = some y → zs.length = i → Pv i zs H → H T = none → (∀ z H5, H5 acc = some (.lst zs) → Pv (i + 1) (zs ++ [z]) (upd H5 acc (.lst (zs ++ [z]))) → N z H5) → te (some x :: some y :: fr) (upd H T (.tup [x, y])) N)
    (hd : ∀ zs H, zs.length = xs.length → Pv xs.length zs H → Q (.ref acc) H) : LcW (Itz t1 t2 K l1 l2) g te (none :: none :: fr) H1 acc Q := by
  refine ⟨fun i m zs σ2 H2 => m = xs.length - i ∧ i ≤ xs.length ∧ zs.length = i ∧ (∃ v w, σ2 = v :: w :: fr) ∧ Pv i zs H2, ⟨xs.length, by simp, Nat.zero_le _, rfl, ⟨_, _, rfl⟩, h0⟩, ?_⟩
  rintro i m zs σ2 H2 ⟨rfl, hi, hl2, ⟨v, w, rfl⟩, p⟩
  obtain ⟨s1, s2⟩ := hl i zs H2 p
  by_cases hlt : i < xs.length
  · have e1 : xs[i]? = some xs[i] := by simp [hlt]
    have e2 : ys[i]? = some (ys[i]'(by omega)) := by simp [show i < ys.length by omega]
    refine .inr ⟨⟨xs, _, ys, _, s1, e1, s2, e2⟩, fun u H3 y3 => ?_⟩
    obtain ⟨T, x, y, rfl, hT, rfl, h1, h2⟩ := y3
    have hx := h1 xs s1
    have hy := h2 ys s2
    refine hg (v1 := x) (v2 := y) (upd_same) ?_
    refine hs i x y zs H2 T _ hx hy hl2 p hT fun z H5 a5 p5 => ⟨a5, by omega, xs.length - (i + 1), by omega, rfl, hlt, by rw [List.length_append, hl2]; rfl, ⟨_, _, rfl⟩, p5⟩
  · have e : i = xs.length := by omega
    subst e
    exact .inl ⟨⟨xs, ys, s1, s2, .inl (Nat.le_refl _)⟩, hd zs H2 hl2 p⟩
end L2

set_option maxHeartbeats 4000000
/-! bits of ints: the lowest place at 1 -/
namespace Bt
open PySem PyProof.Rows
theorem nat_and (x y : Nat) : (x &&& y) = 2 * ((x / 2) &&& (y / 2)) + (x % 2) * (y % 2) := by
  have h1 : (x &&& y) / 2 = (x / 2) &&& (y / 2) := Nat.and_div_two
  have h2 : (x &&& y) % 2 = 1 ↔ x % 2 = 1 ∧ y % 2 = 1 := Nat.and_mod_two_eq_one
  rcases Nat.mod_two_eq_zero_or_one x with a | a <;> rcases Nat.mod_two_eq_zero_or_one y with b | b <;> rw [a, b] at h2 ⊢ <;> omega
theorem nat_or (x y : Nat) : (x ||| y) = 2 * ((x / 2) ||| (y / 2)) + (x % 2 + y % 2 - (x % 2) * (y % 2)) := by
  have h1 : (x ||| y) / 2 = (x / 2) ||| (y / 2) := Nat.or_div_two
  have h2 : (x ||| y) % 2 = 1 ↔ x % 2 = 1 ∨ y % 2 = 1 := Nat.or_mod_two_eq_one
  rcases Nat.mod_two_eq_zero_or_one x with a | a <;> rcases Nat.mod_two_eq_zero_or_one y with b | b <;> rw [a, b] at h2 ⊢ <;> omega
def Half (x y : Int) : Prop := Builtin.bitAnd x y = 2 * Builtin.bitAnd (x / 2) (y / 2) + (x % 2) * (y % 2)
theorem Half.swap {x y : Int} (h : Half x y) : Half y x := by
  unfold Half at h ⊢
  rw [bitAnd_comm y x, bitAnd_comm (y / 2), Int.mul_comm (y % 2)]; exact h
theorem Half.flip {x y : Int} (h : Half x (Builtin.bitNot y)) : Half x y := by
  unfold Half at h ⊢
  have e := bitAnd_not x (Builtin.bitNot y)
  have e2 := bitAnd_not (x / 2) (Builtin.bitNot (y / 2))
  rw [bitNot_bitNot] at e e2
  have q : Builtin.bitNot (y / 2) = Builtin.bitNot y / 2 := by unfold Builtin.bitNot; omega
  have p : x % 2 * (y % 2) = x % 2 - x % 2 * (Builtin.bitNot y % 2) := by
    rw [show y % 2 = 1 - Builtin.bitNot y % 2 by unfold Builtin.bitNot; omega, Int.mul_sub, Int.mul_one]
  rw [e, e2, q, h, p]; omega
theorem Half.pos {x y : Int} (hx : 0 ≤ x) (hy : 0 ≤ y) : Half x y := by
  have h : ∀ {z : Int}, 0 ≤ z → z.toNat / 2 = (z / 2).toNat ∧ ((z.toNat % 2 : Nat) : Int) = z % 2 := fun h => by omega
  unfold Half
  rw [bitAnd_pp hx hy, bitAnd_pp (Int.ediv_nonneg hx (by decide)) (Int.ediv_nonneg hy (by decide)), nat_and, (h hx).1, (h hy).1, ← (h hx).2, ← (h hy).2, Int.natCast_add, Int.natCast_mul, Int.natCast_mul]; rfl
theorem Half.right {x : Int} (hx : 0 ≤ x) (y : Int) : Half x y :=
  (Classical.em (0 ≤ y)).elim (Half.pos hx) fun hy => (Half.pos hx (bitNot_nonneg.mpr hy)).flip
theorem and_half (x y : Int) : Builtin.bitAnd x y = 2 * Builtin.bitAnd (x / 2) (y / 2) + (x % 2) * (y % 2) :=
  (Classical.em (0 ≤ x)).elim (fun hx => Half.right hx y) fun hx => (Half.right (bitNot_nonneg.mpr hx) y).swap.flip.swap
theorem or_half (x y : Int) : Builtin.bitOr x y = 2 * Builtin.bitOr (x / 2) (y / 2) + (x % 2 + y % 2 - (x % 2) * (y % 2)) := by
  rw [bitOr_and, bitOr_and, and_half]
  omega
theorem pow_succ_dvd {v : Nat} {x : Int} : (2 : Int) ^ (v + 1) ∣ x ↔ x % 2 = 0 ∧ (2 : Int) ^ v ∣ x / 2 := by
  constructor
  · rintro ⟨k, rfl⟩
    have e : (2 : Int) ^ (v + 1) * k = 2 * (2 ^ v * k) := by rw [Int.pow_succ]; grind
    rw [e]
    exact ⟨by omega, ⟨k, by omega⟩⟩
  · rintro ⟨h0, k, hk⟩
    refine ⟨k, ?_⟩
    have e : (2 : Int) ^ (v + 1) * k = 2 * (2 ^ v * k) := by rw [Int.pow_succ]; grind
    rw [e, ← hk]
    omega
theorem or_dvd : ∀ (v : Nat) (x y : Int), (2 : Int) ^ v ∣ Builtin.bitOr x y ↔ (2 : Int) ^ v ∣ x ∧ (2 : Int) ^ v ∣ y
  | 0, x, y => by simp
  | v + 1, x, y => by
    rw [pow_succ_dvd, pow_succ_dvd, pow_succ_dvd]
    have e := or_half x y
    have ih := or_dvd v (x / 2) (y / 2)
    have ex := Int.emod_two_eq x
    have ey := Int.emod_two_eq y
    rcases ex with a | a <;> rcases ey with b | b <;> rw [a, b] at e ⊢
    · have e2 : Builtin.bitOr x y / 2 = Builtin.bitOr (x / 2) (y / 2) := by omega
      rw [e2, ih]
      have e3 : Builtin.bitOr x y % 2 = 0 := by omega
      simp [e3]
    all_goals
      have e3 : Builtin.bitOr x y % 2 = 1 := by omega
      simp [e3]
theorem lt_two_pow (n : Nat) : n < 2 ^ n := Nat.lt_two_pow_self
theorem zero_of_dvd {x : Int} (h : ∀ v : Nat, (2 : Int) ^ v ∣ x) : x = 0 := by
  have h1 := h x.natAbs
  apply Classical.byContradiction
  intro hx
  have h2 := Int.natAbs_dvd_natAbs.mpr h1
  have h3 := Nat.le_of_dvd (by omega) h2
  rw [Int.natAbs_pow] at h3
  have := lt_two_pow x.natAbs
  have e : (2 : Int).natAbs = 2 := rfl
  rw [e] at h3
  omega
theorem or_zero {x y : Int} : Builtin.bitOr x y = 0 ↔ x = 0 ∧ y = 0 := by
  constructor
  · intro h
    have hd : ∀ v : Nat, (2 : Int) ^ v ∣ Builtin.bitOr x y := fun v => by rw [h]; exact Int.dvd_zero _
    exact ⟨zero_of_dvd fun v => ((or_dvd v x y).mp (hd v)).1, zero_of_dvd fun v => ((or_dvd v x y).mp (hd v)).2⟩
  · rintro ⟨rfl, rfl⟩
    decide +kernel
theorem low_bit : ∀ (n : Nat) (p : Int), p.natAbs < n → p ≠ 0 → ∃ (v : Nat) (q : Int), p = 2 ^ v * q ∧ q % 2 = 1 ∧ Builtin.bitAnd p (-p) = ((2 ^ v : Nat) : Int)
  | 0, p, h, _ => by omega
  | n + 1, p, h, hp => by
    rcases Int.emod_two_eq p with h0 | h1
    · obtain ⟨v, q, e, o, b⟩ := low_bit n (p / 2) (by omega) (by omega)
      refine ⟨v + 1, q, ?_, o, ?_⟩
      · have e2 : (2 : Int) ^ (v + 1) * q = 2 * (2 ^ v * q) := by rw [Int.pow_succ]; grind
        rw [e2, ← e]; omega
      · rw [and_half, show (-p) / 2 = -(p / 2) by omega, b, h0, Nat.pow_succ]
        omega
    · refine ⟨0, p, by simp, h1, ?_⟩
      rw [and_half, show (-p) / 2 = Builtin.bitNot (p / 2) by unfold Builtin.bitNot; omega, bitAnd_not, bitAnd_self, h1, show (-p) % 2 = 1 by omega]
      rw [Int.sub_self]; rfl
theorem bits_pow (v : Nat) : Builtin.Int.intBits ((2 ^ v : Nat) : Int) = v + 1 := by
  unfold Builtin.Int.intBits
  have hp : 0 < 2 ^ v := Nat.two_pow_pos v
  have hne : ((((2 ^ v : Nat) : Int)) == 0) = false := by
    rw [beq_eq_false_iff_ne]; omega
  rw [hne, Int.natAbs_natCast, Nat.log2_two_pow]
  rfl
end Bt

set_option maxHeartbeats 4000000
/-! more rules: great shifts, bit_length, any and all of bools, lists of ints compared -/
namespace L2
open PySem PySem.Spec PyProof.Rows
section
variable {X : Cx}
def CShl (i j : Int) : Prop := ∃ a, Sz a i ∧ 0 ≤ j ∧ (a : Int) + j ≤ 1048576
theorem op_shlS : OpR X (binaryOp .LShift) (rI CShl fun i j => .int (i * 2 ^ j.toNat)) := opI fun i j _ _ _ _ _ hc q => by
  obtain ⟨a, h1, h2, h3⟩ := hc
  have := h1.bits
  exact lshift_int h2 (by omega) q
theorem mt_bitlen : MtR X "int.bit_length" (fun x xs H Q => ∃ i, x = .int i ∧ xs = [] ∧ Q (.int (Builtin.Int.intBits i : Nat)) H) := by
  intro pins s σ H x xs v us Q I rx rs h
  obtain ⟨i, rfl, rfl, q⟩ := h
  obtain ⟨t, rfl⟩ := rx
  cases rs
  refine call_gives PySem.F.slot_int_bit_length (typeIs_int s i t) PySem.F.entry_int_bit_length (PySem.F.args_int_bit_length_1 _) (PySem.AutoIntG2.int_bit_length_int_0 i t) ?_
  exact ⟨.int (Builtin.Int.intBits i : Nat), H, I.tok _, ⟨_, rfl⟩, q⟩
theorem call_anyL (hc : X.calm = true) : CallR X (.builtin "any") (fun xs H Q => ∃ (p : Addr) (bs : List Bool), xs = [.ref p] ∧ SqL X.K H p (bs.map V.bl) ∧ Q (.bl (bs.any id)) H) := by
  intro pins s σ H xs us Q I r h
  obtain ⟨p, bs, rfl, hq, q⟩ := h
  obtain ⟨u, rfl, ru⟩ := r.one
  cases ru
  obtain ⟨its, rv, pl, hz⟩ := I.list hq
  have hlen : its.length = bs.length := by rw [← rv.length, List.length_map]
  refine call_any_walk (wpAny_pyIter_list pl.isList ?_)
  have W := Walks.list (prog := X.prog) (w := X.w) (A := X.A.in1) (show X.A.in1.handled = none from I.ok.hd hc) s.heap.objs.size p (by
    obtain ⟨o, e, _⟩ := pl.isList
    exact Nat.ne_of_lt (Heap.lt_size e)) its.toArray
  refine ⟨s.heap.objs.size, _, _, _, _, _, fun i => bs.getD i false, rfl, W, ⟨⟨_, Heap.get?_push_size _ rfl, rfl, rfl⟩, pl.isList.push _⟩, ?_, fun h' tk hk => ?_⟩
  · intro i v s' Q' E' hv hQ
    have hv' : its[i]? = some v := by simpa using hv
    have hi : i < bs.length := by rw [← hlen]; exact (List.getElem?_eq_some_iff.mp hv').1
    have hb : (bs.map V.bl)[i]? = some (.bl (bs.getD i false)) := by
      rw [List.getElem?_map, List.getElem?_eq_getElem hi, List.getD_eq_getElem?_getD, List.getElem?_eq_getElem hi]; rfl
    obtain ⟨u, hu, ru⟩ := rv.get hb
    rw [hv'] at hu
    cases hu
    cases ru
    exact wpAny_truthy_bool hQ
  · have e : (List.range its.toArray.size).any (fun i => bs.getD i false) = bs.any id := by
      rw [List.size_toArray, hlen]
      rw [Bool.eq_iff_iff, List.any_eq_true, List.any_eq_true]
      constructor
      · rintro ⟨i, hi, hb⟩
        have hi' : i < bs.length := List.mem_range.mp hi
        rw [List.getD_eq_getElem?_getD, List.getElem?_eq_getElem hi'] at hb
        exact ⟨bs[i], List.getElem_mem hi', hb⟩
      · rintro ⟨b, hb, hb'⟩
        obtain ⟨i, hi, rfl⟩ := List.mem_iff_getElem.mp hb
        refine ⟨i, List.mem_range.mpr hi, ?_⟩
        rw [List.getD_eq_getElem?_getD, List.getElem?_eq_getElem hi]
        exact hb'
    rw [e]
    refine ⟨.bl (bs.any id), H, ?_, rfl, q⟩
    exact I.kept (t' := tk) fun b o eo => hk b o (by simp; exact Nat.ne_of_lt (Heap.lt_size eo)) (Heap.get?_push_of_some _ eo)
end
end L2

set_option maxHeartbeats 4000000
/-! amounts: four parts and halvings -/
namespace Am
open PySem
abbrev p2 (h : Int) : Int := 2 ^ h.toNat
theorem p2_pos (h : Int) : 0 < p2 h := Int.pow_pos (by decide)
theorem p2_ne (h : Int) : p2 h ≠ 0 := by have := p2_pos h; omega
theorem p2_add {a b : Int} (ha : 0 ≤ a) (hb : 0 ≤ b) : p2 (a + b) = p2 a * p2 b := by
  unfold p2
  rw [show (a + b).toNat = a.toNat + b.toNat by omega, Int.pow_add]
theorem p2_sub {a b : Int} (hb : 0 ≤ b) (h : b ≤ a) : p2 a = p2 (a - b) * p2 b := by
  rw [← p2_add (by omega) hb]
  congr 1
  omega
structure Amt (a b c d h : Int) : Prop where
  nn : 0 ≤ h
  odd : h = 0 ∨ a % 2 = 1 ∨ b % 2 = 1 ∨ c % 2 = 1 ∨ d % 2 = 1
def Eq2 (x h y g : Int) : Prop := x * p2 g = y * p2 h
structure Same4 (a b c d h a' b' c' d' h' : Int) : Prop where
  e1 : Eq2 a h a' h'
  e2 : Eq2 b h b' h'
  e3 : Eq2 c h c' h'
  e4 : Eq2 d h d' h'
theorem Eq2.trans {x h y g z k : Int} (a : Eq2 x h y g) (b : Eq2 y g z k) : Eq2 x h z k := by
  unfold Eq2 at *
  have h1 : (x * p2 k) * p2 g = (z * p2 h) * p2 g := by
    have e1 : (x * p2 k) * p2 g = (x * p2 g) * p2 k := by grind
    have e2 : (z * p2 h) * p2 g = (z * p2 g) * p2 h := by grind
    rw [e1, e2, a, ← b]; grind
  exact Int.eq_of_mul_eq_mul_right (p2_ne g) h1
theorem Same4.trans {a b c d h a' b' c' d' h' a2 b2 c2 d2 h2 : Int} (s : Same4 a b c d h a' b' c' d' h') (t : Same4 a' b' c' d' h' a2 b2 c2 d2 h2) : Same4 a b c d h a2 b2 c2 d2 h2 :=
  ⟨s.e1.trans t.e1, s.e2.trans t.e2, s.e3.trans t.e3, s.e4.trans t.e4⟩
abbrev orAll (a b c d : Int) : Int := Builtin.bitOr (Builtin.bitOr (Builtin.bitOr a b) c) d
theorem orAll_dvd {v : Nat} {a b c d : Int} : (2 : Int) ^ v ∣ orAll a b c d ↔ ((2 : Int) ^ v ∣ a ∧ (2 : Int) ^ v ∣ b ∧ (2 : Int) ^ v ∣ c ∧ (2 : Int) ^ v ∣ d) := by
  unfold orAll
  rw [Bt.or_dvd, Bt.or_dvd, Bt.or_dvd]
  constructor
  · rintro ⟨⟨⟨h1, h2⟩, h3⟩, h4⟩; exact ⟨h1, h2, h3, h4⟩
  · rintro ⟨h1, h2, h3, h4⟩; exact ⟨⟨⟨h1, h2⟩, h3⟩, h4⟩
theorem orAll_zero {a b c d : Int} : orAll a b c d = 0 ↔ (a = 0 ∧ b = 0 ∧ c = 0 ∧ d = 0) := by
  unfold orAll
  rw [Bt.or_zero, Bt.or_zero, Bt.or_zero]
  constructor
  · rintro ⟨⟨⟨h1, h2⟩, h3⟩, h4⟩; exact ⟨h1, h2, h3, h4⟩
  · rintro ⟨h1, h2, h3, h4⟩; exact ⟨⟨⟨h1, h2⟩, h3⟩, h4⟩
theorem lowest {a b c d : Int} (hp : orAll a b c d ≠ 0) : ∃ v : Nat, ((Builtin.Int.intBits (Builtin.bitAnd (orAll a b c d) (-(orAll a b c d))) : Nat) : Int) - 1 = v ∧ ((2 : Int) ^ v ∣ a ∧ (2 : Int) ^ v ∣ b ∧ (2 : Int) ^ v ∣ c ∧ (2 : Int) ^ v ∣ d) ∧
    ¬ ((2 : Int) ^ (v + 1) ∣ a ∧ (2 : Int) ^ (v + 1) ∣ b ∧ (2 : Int) ^ (v + 1) ∣ c ∧ (2 : Int) ^ (v + 1) ∣ d) := by
  obtain ⟨v, q, e, o, bb⟩ := Bt.low_bit _ (orAll a b c d) (Nat.lt_succ_self _) hp
  refine ⟨v, by rw [bb, Bt.bits_pow]; omega, orAll_dvd.mp ⟨q, e⟩, fun h => ?_⟩
  have h' := orAll_dvd.mpr h
  obtain ⟨k, hk⟩ := h'
  rw [e, Int.pow_succ, Int.mul_assoc] at hk
  have := Int.eq_of_mul_eq_mul_left (Int.ne_of_gt (Int.pow_pos (by decide) : (0 : Int) < 2 ^ v)) hk
  omega
theorem div_part {x h m : Int} (hm : 0 ≤ m) (hmh : m ≤ h) (hd : (2 : Int) ^ m.toNat ∣ x) : Eq2 x h (x / 2 ^ m.toNat) (h - m) ∧ (x / 2 ^ m.toNat).natAbs ≤ x.natAbs := by
  obtain ⟨k, rfl⟩ := hd
  have hne : (2 : Int) ^ m.toNat ≠ 0 := p2_ne m
  rw [Int.mul_ediv_cancel_left _ hne]
  constructor
  · unfold Eq2
    rw [p2_sub hm hmh]
    show 2 ^ m.toNat * k * p2 (h - m) = k * (p2 (h - m) * 2 ^ m.toNat)
    grind
  · rw [Int.natAbs_mul]
    exact Nat.le_mul_of_pos_left _ (by omega)
theorem dvd_le {x : Int} {m v : Nat} (h : m ≤ v) (hd : (2 : Int) ^ v ∣ x) : (2 : Int) ^ m ∣ x := by
  obtain ⟨k, rfl⟩ := hd
  refine ⟨2 ^ (v - m) * k, ?_⟩
  rw [← Int.mul_assoc, ← Int.pow_add, show m + (v - m) = v by omega]
theorem halve {a b c d h : Int} (hh : 0 ≤ h) {v : Nat} (hd : (2 : Int) ^ v ∣ a ∧ (2 : Int) ^ v ∣ b ∧ (2 : Int) ^ v ∣ c ∧ (2 : Int) ^ v ∣ d)
    (hn : ¬ ((2 : Int) ^ (v + 1) ∣ a ∧ (2 : Int) ^ (v + 1) ∣ b ∧ (2 : Int) ^ (v + 1) ∣ c ∧ (2 : Int) ^ (v + 1) ∣ d)) {m : Int} (hm : m = if h < v then h else v) :
    0 ≤ m ∧ m ≤ h ∧ Amt (a / 2 ^ m.toNat) (b / 2 ^ m.toNat) (c / 2 ^ m.toNat) (d / 2 ^ m.toNat) (h - m) ∧ Same4 a b c d h (a / 2 ^ m.toNat) (b / 2 ^ m.toNat) (c / 2 ^ m.toNat) (d / 2 ^ m.toNat) (h - m) ∧
    ((a / 2 ^ m.toNat).natAbs ≤ a.natAbs ∧ (b / 2 ^ m.toNat).natAbs ≤ b.natAbs ∧ (c / 2 ^ m.toNat).natAbs ≤ c.natAbs ∧ (d / 2 ^ m.toNat).natAbs ≤ d.natAbs) := by
  have m0 : 0 ≤ m := by rw [hm]; split <;> omega
  have m1 : m ≤ h := by rw [hm]; split <;> omega
  have mv : m.toNat ≤ v := by rw [hm]; split <;> omega
  obtain ⟨d1, d2, d3, d4⟩ := hd
  have q1 := div_part m0 m1 (dvd_le mv d1)
  have q2 := div_part m0 m1 (dvd_le mv d2)
  have q3 := div_part m0 m1 (dvd_le mv d3)
  have q4 := div_part m0 m1 (dvd_le mv d4)
  refine ⟨m0, m1, ⟨by omega, ?_⟩, ⟨q1.1, q2.1, q3.1, q4.1⟩, q1.2, q2.2, q3.2, q4.2⟩
  by_cases hlt : h < v
  · left
    rw [hm, if_pos hlt]
    omega
  · right
    have hmv : m.toNat = v := by rw [hm, if_neg hlt]; omega
    rw [hmv]
    have tail : ∀ x : Int, (2 : Int) ^ v ∣ x → ¬ (x / 2 ^ v) % 2 = 1 → (2 : Int) ^ (v + 1) ∣ x := by
      rintro x ⟨k, rfl⟩ ho
      have hne : (2 : Int) ^ v ≠ 0 := Int.ne_of_gt (Int.pow_pos (by decide))
      rw [Int.mul_ediv_cancel_left _ hne] at ho
      refine ⟨k / 2, ?_⟩
      rw [Int.pow_succ, Int.mul_assoc]
      congr 1
      omega
    apply Classical.byContradiction
    intro hno
    apply hn
    refine ⟨tail a d1 fun o => hno (.inl o), tail b d2 fun o => hno (.inr (.inl o)), tail c d3 fun o => hno (.inr (.inr (.inl o))), tail d d4 fun o => hno (.inr (.inr (.inr o)))⟩
end Am

set_option maxHeartbeats 4000000
/-! how many binary places of a number are at 1 -/
namespace Pc
open PySem PyProof.Rows
def pc (n : Nat) : Nat := if h : n = 0 then 0 else n % 2 + pc (n / 2)
theorem pc_zero : pc 0 = 0 := by unfold pc; simp
theorem pc_half (n : Nat) : pc n = n % 2 + pc (n / 2) := by
  by_cases h : n = 0
  · subst h; rw [show (0 / 2 : Nat) = 0 from rfl, pc_zero]
  · conv => lhs; unfold pc
    rw [dif_neg h]
theorem nat_xor (x y : Nat) : (x ^^^ y) = 2 * ((x / 2) ^^^ (y / 2)) + (x % 2 + y % 2) % 2 := by
  have h1 : (x ^^^ y) / 2 = (x / 2) ^^^ (y / 2) := Nat.xor_div_two
  have h2 : (x ^^^ y) % 2 = (x % 2 + y % 2) % 2 := by
    have := Nat.xor_mod_two_eq_one (a := x) (b := y)
    rcases Nat.mod_two_eq_zero_or_one x with a | a <;> rcases Nat.mod_two_eq_zero_or_one y with b | b <;> rcases Nat.mod_two_eq_zero_or_one (x ^^^ y) with c | c <;> simp [a, b, c] at this ⊢
  omega
theorem pc_drop : ∀ (m n : Nat), n < m → n ≠ 0 → pc (n &&& (n - 1)) + 1 = pc n
  | 0, n, h, _ => by omega
  | m + 1, n, h, hn => by
    have e := Bt.nat_and n (n - 1)
    rw [pc_half n, pc_half (n &&& (n - 1))]
    rcases Nat.mod_two_eq_zero_or_one n with a | a
    · have e1 : (n - 1) / 2 = n / 2 - 1 := by omega
      rw [e1, a, Nat.zero_mul] at e
      have e2 : (n &&& (n - 1)) / 2 = n / 2 &&& (n / 2 - 1) := by omega
      have e3 : (n &&& (n - 1)) % 2 = 0 := by omega
      rw [e2, e3, a]
      have := pc_drop m (n / 2) (by omega) (by omega)
      omega
    · have e1 : (n - 1) / 2 = n / 2 := by omega
      have e0 : (n - 1) % 2 = 0 := by omega
      rw [e1, e0, Nat.mul_zero, Nat.and_self] at e
      have e2 : (n &&& (n - 1)) / 2 = n / 2 := by omega
      have e3 : (n &&& (n - 1)) % 2 = 0 := by omega
      rw [e2, e3, a]
      omega
theorem pc_xor : ∀ (m x y : Nat), x < m → y < m → pc (x ^^^ y) % 2 = (pc x + pc y) % 2
  | 0, x, y, h, _ => by omega
  | m + 1, x, y, hx, hy => by
    by_cases z : x = 0 ∧ y = 0
    · obtain ⟨rfl, rfl⟩ := z
      rw [show (0 ^^^ 0 : Nat) = 0 from rfl, pc_zero]
    · have e := nat_xor x y
      rw [pc_half (x ^^^ y), pc_half x, pc_half y, show (x ^^^ y) / 2 = x / 2 ^^^ y / 2 by omega]
      by_cases q : x / 2 < m ∧ y / 2 < m
      · have := pc_xor m (x / 2) (y / 2) q.1 q.2
        omega
      · exfalso; omega
theorem pcx (x y : Nat) : pc (x ^^^ y) % 2 = (pc x + pc y) % 2 := pc_xor (x + y + 1) x y (by omega) (by omega)
theorem or_eq : ∀ (m x y : Nat), x < m → y < m → (x ||| y) = (x ^^^ y) + (x &&& y)
  | 0, x, y, h, _ => by omega
  | m + 1, x, y, hx, hy => by
    by_cases z : x = 0 ∧ y = 0
    · obtain ⟨rfl, rfl⟩ := z; rfl
    · have e := nat_xor x y
      have e1 := Bt.nat_and x y
      have e2 := Bt.nat_or x y
      by_cases q : x / 2 < m ∧ y / 2 < m
      · have := or_eq m (x / 2) (y / 2) q.1 q.2
        rcases Nat.mod_two_eq_zero_or_one x with a | a <;> rcases Nat.mod_two_eq_zero_or_one y with b | b <;> rw [a, b] at e e1 e2 <;> omega
      · exfalso; omega
theorem and_i (x y : Nat) : Builtin.bitAnd (x : Int) (y : Int) = ((x &&& y : Nat) : Int) := by rw [bitAnd_pp (by omega) (by omega)]; simp
theorem xor_i (x y : Nat) : Builtin.bitXor (x : Int) (y : Int) = ((x ^^^ y : Nat) : Int) := by
  have h : Builtin.bitXor (x : Int) (y : Int) = Builtin.bitOr x y - Builtin.bitAnd x y := rfl
  have h2 : Builtin.bitOr (x : Int) (y : Int) = ((x ||| y : Nat) : Int) := by
    unfold Builtin.bitOr
    rw [bitAnd_nn (by unfold Builtin.bitNot; omega) (by unfold Builtin.bitNot; omega), bitNot_bitNot, bitNot_bitNot, bitNot_bitNot]
    simp
  rw [h, h2, and_i, or_eq (x + y + 1) x y (by omega) (by omega)]
  omega
end Pc

set_option maxHeartbeats 4000000
namespace L2
open PySem PySem.Spec PyProof.Rows
theorem Same.tup {K : PySem.W.Frag} {H H' : Hp} {a : Addr} {xs : List V} (e : Same H H') (h : SqT K H a xs) : SqT K H' a xs := by
  rcases h with h | h
  · rcases h with h | ⟨o, h⟩
    · exact .inl (.inl (e _ _ h))
    · exact .inl (.inr ⟨o, e _ _ h⟩)
  · exact .inr h
theorem Same.sqx {t : Bool} {K : PySem.W.Frag} {H H' : Hp} {a : Addr} {xs : List V} (e : Same H H') (h : SqX t K H a xs) : SqX t K H' a xs := by
  cases t
  · exact e.seq (show SqL K H a xs from h)
  · exact e.tup (show SqT K H a xs from h)
section
variable {X : Cx} {scope : Scope} {Nc : List Str} {ex : List Addr} {pins : List (Addr × Obj)} {s : Shared} {H : Hp}
theorem ix_listC : IxR (cxLc X scope Nc ex pins s H) (rIxL X.K) := ix_list
theorem pg_pairC {x y : Str} {k : Nat} {p1 p2 pos : Pos} (hc : (cxLc X scope Nc ex pins s H).calm = true) (hN : Nc.Nodup) (h0 : Nc[0]? = some x) (h1 : Nc[1]? = some y) (l0 : (cxLc X scope Nc ex pins s H).env.scope.names.lookup x = some .local) (l1 : (cxLc X scope Nc ex pins s H).env.scope.names.lookup y = some .local) :
    PG (cxLc X scope Nc ex pins s H) (.Tuple [.Name x p1, .Name y p2] k pos) (gTup X.K 2 (gCons (gName 0) (gCons (gName 1) gNil))) :=
  pg_tup (X := cxLc X scope Nc ex pins s H) hc (pgs_cons (pg_name (i := 0) hN h0 (.inl l0) (.inr l0)) (pgs_cons (pg_name (i := 1) hN h1 (.inl l1) (.inr l1)) pgs_nil))
end
theorem lc_zipI {t1 t2 : Bool} {K : PySem.W.Frag} {l1 l2 : Addr} {g : TG} {ns ms : List Int} {te : TE} {fr : St} {H1 : Hp} {acc : Addr} {Q : VK} (f : Int → Int → Int) (hxy : ns.length = ms.length) (hn : ns.length ≤ sizeLine)
    (h1 : SqX t1 K H1 l1 (ns.map V.int)) (h2 : SqX t2 K H1 l2 (ms.map V.int)) (hacc : H1 acc = none)
    (hg : ∀ {a : Addr} {x y : V} {w1 w2 : Option V} {H : Hp} {Q : St → Hp → Prop}, H a = some (.tup [x, y]) → Q (some x :: some y :: fr) H → g (.ref a) (w1 :: w2 :: fr) H Q)
    (hs : ∀ n m H (N : V → Hp → Prop), n ∈ ns → m ∈ ms → N (.int (f n m)) H → te (some (.int n) :: some (.int m) :: fr) H N)
    (hd : ∀ H2, Same H1 H2 → H2 acc = some (.lst ((List.zipWith f ns ms).map V.int)) → Q (.ref acc) H2) : LcW (Itz t1 t2 K l1 l2) g te (none :: none :: fr) H1 acc Q := by
  refine lc_zip (xs := ns.map V.int) (ys := ms.map V.int) (fun i zs H' => Same H1 H' ∧ H' acc = some (.lst zs) ∧ zs = ((List.zipWith f ns ms).take i).map V.int) (by simp [hxy]) (by simp; exact hn)
    ⟨same_new hacc _, upd_same, rfl⟩ (fun ha hQ => hg ha hQ) (fun i zs H p => ⟨p.1.sqx h1, p.1.sqx h2⟩) ?_ ?_
  · rintro i x y zs H T N hx hy hl ⟨s2, a2, e2⟩ hT kN
    rw [List.getElem?_map] at hx hy
    obtain ⟨n, hn1, rfl⟩ := Option.map_eq_some_iff.mp hx
    obtain ⟨m, hm1, rfl⟩ := Option.map_eq_some_iff.mp hy
    refine hs n m _ _ (List.mem_of_getElem? hn1) (List.mem_of_getElem? hm1) ?_
    have hTa : acc ≠ T := fun e => by rw [← e, a2] at hT; cases hT
    refine kN _ _ (by rw [upd_ne hTa]; exact a2) ⟨same_upd (s2.trans (same_new hT _)) hacc, upd_same, ?_⟩
    have : (List.zipWith f ns ms)[i]? = some (f n m) := by rw [List.getElem?_zipWith, hn1, hm1]
    rw [List.take_add_one, this, List.map_append, e2]
    rfl
  · rintro zs H hl ⟨s2, a2, e2⟩
    refine hd H s2 ?_
    rw [a2, e2, List.take_of_length_le]
    simp only [List.length_zipWith, List.length_map]
    omega
end L2
namespace L2
open PySem PySem.Spec PyProof.Rows
section
variable {K : PySem.W.Frag} {a : Addr} {ns : List Int} {te : TE} {fr : St} {H1 : Hp} {acc : Addr} {Q : VK}
theorem lc_pure {J : It} {n : Nat} {val : Nat → V} (f : Nat → V) (hn : n ≤ sizeLine) (hacc : H1 acc = none)
    (hgo : ∀ i H, i < n → Same H1 H → J.go i H ∧ ∀ x H', J.yld i H x H' → H' = H ∧ x = val i) (hst : ∀ H, Same H1 H → J.stop n H)
    (hs : ∀ i H (N : V → Hp → Prop), i < n → Same H1 H → N (f i) H → te (some (val i) :: fr) H N)
    (hd : ∀ H2, Same H1 H2 → H2 acc = some (.lst ((List.range n).map f)) → Q (.ref acc) H2) : LcW J (gName 0) te (none :: fr) H1 acc Q := by
  refine lc_by (val := val) (fun i ys H' => Same H1 H' ∧ H' acc = some (.lst ys) ∧ ys = (List.range i).map f) hn ⟨same_new hacc _, upd_same, rfl⟩ (fun i ys H hi p => hgo i H hi p.1) (fun ys H p => hst H p.1) ?_ ?_
  · rintro i ys H N hi hl ⟨s2, a2, e2⟩ kN
    refine hs i H N hi s2 (kN _ _ a2 ⟨same_upd s2 hacc, upd_same, ?_⟩)
    rw [e2, List.range_succ, List.map_append]
    rfl
  · rintro ys H hl ⟨s2, a2, e2⟩
    exact hd H s2 (by rw [a2, e2])
theorem range_map (ns : List Int) (f : Int → V) : (List.range ns.length).map (fun i => f (ns.getD i 0)) = ns.map f := by
  apply List.ext_getElem
  · simp
  · intro i h1 h2
    simp at h1
    simp [h1]
end
section
variable {X : Cx}
end
end L2
namespace L2
open PySem PySem.Spec PyProof.Rows
end L2

namespace L2
open PySem PySem.Spec PyProof.Rows

/-! ### lists of pairs as tables -/
section
variable {κ : Type} [DecidableEq κ]
def valV (kvs : List (κ × V)) (k : κ) : Option V := (kvs.find? fun kv => decide (kv.1 = k)).map (·.2)
def putK (kvs : List (κ × V)) (k : κ) (v : V) : List (κ × V) :=
  if (kvs.any fun kv => decide (kv.1 = k)) = true then kvs.map (fun kv => if kv.1 = k then (kv.1, v) else kv) else kvs ++ [(k, v)]
theorem valV_nil {k : κ} : valV ([] : List (κ × V)) k = none := rfl
theorem valV_pos {p : κ × V} {r : List (κ × V)} {k : κ} (e : p.1 = k) : valV (p :: r) k = some p.2 := by simp [valV, List.find?_cons, e]
theorem valV_neg {p : κ × V} {r : List (κ × V)} {k : κ} (e : ¬ p.1 = k) : valV (p :: r) k = valV r k := by simp [valV, List.find?_cons, e]
theorem length_putK (kvs : List (κ × V)) (k : κ) (v : V) : (putK kvs k v).length ≤ kvs.length + 1 := by
  unfold putK
  split
  · rw [List.length_map]; omega
  · rw [List.length_append, List.length_cons, List.length_nil]; omega
theorem RelO.isSome_eq {o : Option V} {u : Option Value} (r : RelO o u) : o.isSome = u.isSome := by
  cases o with
  | none => cases u with
    | none => rfl
    | some _ => exact (show False from r).elim
  | some _ => cases u with
    | none => exact (show False from r).elim
    | some _ => rfl
theorem KV.val {kvs : List (κ × V)} {vs : List (κ × Value)} (r : KV kvs vs) (k : κ) : RelO (valV kvs k) (valueAt vs k) := by
  unfold KV at r
  induction r with
  | nil => exact True.intro
  | @cons p q ps qs h t ih =>
    obtain ⟨h1, h2⟩ := h
    by_cases e : p.1 = k
    · have e' : q.1 = k := h1.symm.trans e
      have b : valueAt (q :: qs) k = some q.2 := by simp [valueAt, List.find?_cons, e']
      rw [valV_pos e, b]; exact h2
    · have e' : ¬ q.1 = k := fun z => e (h1.trans z)
      have b : valueAt (q :: qs) k = valueAt qs k := by simp [valueAt, List.find?_cons, e']
      rw [valV_neg e, b]; exact ih
theorem KV.any {kvs : List (κ × V)} {vs : List (κ × Value)} (r : KV kvs vs) (k : κ) : (kvs.any fun kv => decide (kv.1 = k)) = vs.any fun kv => decide (kv.1 = k) := by
  unfold KV at r
  induction r with
  | nil => rfl
  | cons h t ih => rw [List.any_cons, List.any_cons, ih, h.1]
theorem KV.repl {kvs : List (κ × V)} {vs : List (κ × Value)} (r : KV kvs vs) (k : κ) {y : V} {u : Value} (ry : RelV y u) :
    KV (kvs.map fun kv => if kv.1 = k then (kv.1, y) else kv) (vs.map fun kv => if kv.1 = k then (kv.1, u) else kv) := by
  unfold KV at r ⊢
  induction r with
  | nil => exact .nil
  | @cons p q ps qs h t ih =>
    rw [List.map_cons, List.map_cons]
    refine .cons ?_ ih
    obtain ⟨h1, h2⟩ := h
    by_cases e : p.1 = k
    · rw [if_pos e, if_pos (h1.symm.trans e)]; exact ⟨h1, ry⟩
    · rw [if_neg e, if_neg (fun z => e (h1.trans z))]; exact ⟨h1, h2⟩
theorem KV.put {kvs : List (κ × V)} {vs : List (κ × Value)} (r : KV kvs vs) (k : κ) {y : V} {u : Value} (ry : RelV y u) : KV (putK kvs k y) (stored vs k u) := by
  unfold putK stored
  rw [r.any k]
  by_cases e : (vs.any fun kv => decide (kv.1 = k)) = true
  · rw [if_pos e, if_pos e]; exact r.repl k ry
  · rw [if_neg e, if_neg e]; exact Paired.snoc r ⟨rfl, ry⟩
theorem KV.keys {kvs : List (κ × V)} {vs : List (κ × Value)} (r : KV kvs vs) : kvs.map (·.1) = vs.map (·.1) := by
  unfold KV at r
  induction r with
  | nil => rfl
  | cons h t ih => rw [List.map_cons, List.map_cons, ih, h.1]
end


/-! ### a tracked dict, its keys ints and texts or tuples of these -/
theorem kV_is {P : Program} {w : World} {k : Key} {u : Value} (r : RelV (kV k) u) : (mixKind P w).is k u = true := by
  cases k with
  | inl i => obtain ⟨t, e⟩ := (show ∃ t, u = Value.int i t from r); subst e; exact mixKind_int P w i t
  | inr x => obtain ⟨t, e⟩ := (show ∃ t, u = Value.str x t from r); subst e; exact mixKind_str P w x t
theorem items_are {P : Program} {w : World} : ∀ {ks : List Key} {us : List Value}, Vals (ks.map kV) us → ItemsAre (mixKind P w) ks us
  | [], _, r => by rw [List.map_nil] at r; cases r; exact .nil
  | k :: ks, _, r => by
    rw [List.map_cons] at r
    cases r with
    | cons h t => exact .cons (kV_is h) (items_are t)

abbrev KT (H : Hp) : List (List Key × V) → List (List Key × Addr × Value) → Prop := Paired fun p q => p.1 = q.1 ∧ H q.2.1 = some (.tup (p.1.map kV)) ∧ RelV p.2 q.2.2
theorem KT.val {H : Hp} {kvs : List (List Key × V)} {xs : List (List Key × Addr × Value)} (r : KT H kvs xs) (k : List Key) : RelO (valV kvs k) ((atKey xs k).map (·.2)) := by
  induction r with
  | nil => exact True.intro
  | @cons p q ps qs h t ih =>
    obtain ⟨h1, _, h2⟩ := h
    by_cases e : p.1 = k
    · have e' : q.1 = k := h1.symm.trans e
      have b : atKey (q :: qs) k = some q.2 := by simp [atKey, List.find?_cons, e']
      rw [valV_pos e, b]; exact h2
    · have e' : ¬ q.1 = k := fun z => e (h1.trans z)
      have b : atKey (q :: qs) k = atKey qs k := by simp [atKey, List.find?_cons, e']
      rw [valV_neg e, b]; exact ih
section
variable {P : Program} {w : World} {H : Hp} {h : Heap} {a : Addr}
theorem rd_of {u : HO} (ok : HOk P w H h) (e : Rd H a u) : ObjOk P w H h a u := e.ok ok
theorem dk_rd {kvs : List (Key × V)} (ok : HOk P w H h) (e : Rd H a (.dK kvs)) : kvs.length ≤ sizeLine ∧ (a == sysModules) = false ∧ ∃ vs, KV kvs vs ∧ h.DictOf (mixKind P w) a vs :=
  show ObjOk P w H h a (.dK kvs) from rd_of ok e
theorem dk_of {kvs : List (Key × V)} (ok : HOk P w H h) (e : H a = some (.dK kvs)) : kvs.length ≤ sizeLine ∧ (a == sysModules) = false ∧ ∃ vs, KV kvs vs ∧ h.DictOf (mixKind P w) a vs := dk_rd ok (.inl e)
theorem key_of {ks : List Key} (ok : HOk P w H h) (e : H a = some (.tup (ks.map kV))) : (tupleKind (mixKind P w)).is h ks a := by
  obtain ⟨_, its, r, o, h1, h2, n, h3⟩ := (show ObjOk P w H h a (.tup (ks.map kV)) from ok a _ e)
  exact ⟨o, its.toArray, n, h1, h2, h3, by simpa using items_are r⟩
theorem dt_rd {kvs : List (List Key × V)} (ok : HOk P w H h) (e : Rd H a (.dT kvs)) : kvs.length ≤ sizeLine ∧ (a == sysModules) = false ∧
    ∃ xs, KT H kvs xs ∧ h.DictOfH (tupleKind (mixKind P w)) a xs := by
  obtain ⟨z, y, xs, r, o, es, ep, h1, h2, h3, h4, h5⟩ := (show ObjOk P w H h a (.dT kvs) from rd_of ok e)
  refine ⟨z, y, xs, r, o, es, ep, h1, h2, h3, h4, fun x hx => ?_, h5⟩
  have all : ∀ {l : List (List Key × V)} {m : List (List Key × Addr × Value)}, KT H l m → ∀ x ∈ m, (tupleKind (mixKind P w)).is h x.1 x.2.1 := by
    intro l m q
    induction q with
    | nil => intro x hx; exact nomatch hx
    | @cons p q ps qs hq t ih =>
      intro x hx
      rcases List.mem_cons.mp hx with e | hx
      · subst e
        exact key_of ok (by rw [← hq.1]; exact hq.2.1)
      · exact ih x hx
  exact all r x hx
end

def DGet (H : Hp) (a : Addr) (y : V) (r : Option V) : Prop :=
  (∃ kvs k, Rd H a (.dK kvs) ∧ y = kV k ∧ r = valV kvs k) ∨ ∃ kvs k b, Rd H a (.dT kvs) ∧ y = .ref b ∧ H b = some (.tup (k.map kV)) ∧ r = valV kvs k
theorem DGet.k {H : Hp} {a : Addr} {kvs : List (Key × V)} {k : Key} (e : H a = some (.dK kvs)) : DGet H a (kV k) (valV kvs k) := .inl ⟨kvs, k, .inl e, rfl, rfl⟩
section
variable {X : Cx} {pins : List (Addr × Obj)} {σ : St} {H : Hp} {s : Shared} {a : Addr} {y v : V} {u r : Value} {o : Option V} {A : Around} {E : Value → Shared → Prop}

theorem Inv.big (I : Inv X pins σ H s) : sysModules < s.heap.objs.size := by
  have h : mainGlobals < s.heap.objs.size := (I.mod.glob.keeps I.bk).lt
  exact Nat.lt_trans (by decide) h

theorem d_getItem {Q : Value → Shared → Prop} (hu : A.units + 1 < cLine) (I : Inv X pins σ H s) (g : DGet H a y (some v)) (ry : RelV y u) (h : ∀ w' s', Inv X pins σ H s' → RelV v w' → Q w' s') :
    wpAny (model X.prog X.w) A (getItem (.ref a) u) Q E s := by
  rcases g with ⟨kvs, k, e, ey, l⟩ | ⟨kvs, k, b, e, ey, eb, l⟩
  · subst ey
    obtain ⟨z, hd, vs, rel, dd⟩ := dk_rd I.hok e
    obtain ⟨w', hw, rw'⟩ := RelO.some_of (v := v) (o := valueAt vs k) (by rw [l]; exact rel.val k)
    exact wpAny_getItem_of (kV_is ry) dd.mapOf hw (h w' _ (I.tok _) rw')
  · subst ey
    cases (show u = Value.ref b from ry)
    obtain ⟨z, hd, xs, rel, dd⟩ := dt_rd I.hok e
    obtain ⟨w', hw, rw'⟩ := RelO.some_of (v := v) (o := (atKey xs k).map (·.2)) (by rw [l]; exact rel.val k)
    obtain ⟨p, hp, hp2⟩ := Option.map_eq_some_iff.mp hw
    refine wpAny_getItem_heap (tupleKind_room_in1 hu) (key_of I.hok eb) dd hp ?_
    rw [hp2]
    exact h w' _ (I.tok _) rw'
theorem d_notIn {Q : Value → Shared → Prop} (hu : A.units + 1 < cLine) (I : Inv X pins σ H s) (g : DGet H a y o) (ry : RelV y u) (h : ∀ s', Inv X pins σ H s' → Q (.bool (!o.isSome)) s') :
    wpAny (model X.prog X.w) A (compareOp .NotIn u (.ref a)) Q E s := by
  rcases g with ⟨kvs, k, e, ey, l⟩ | ⟨kvs, k, b, e, ey, eb, l⟩
  · subst ey
    obtain ⟨z, hd, vs, rel, dd⟩ := dk_rd I.hok e
    refine wpAny_notIn_of (kV_is ry) hd dd.mapOf ?_
    rw [← (rel.val k).isSome_eq, ← l]
    exact h _ (I.tok _)
  · subst ey
    cases (show u = Value.ref b from ry)
    obtain ⟨z, hd, xs, rel, dd⟩ := dt_rd I.hok e
    refine wpAny_notIn_heap (tupleKind_room_in1 hu) (key_of I.hok eb) hd dd ?_
    have q := (rel.val k).isSome_eq
    rw [Option.isSome_map] at q
    rw [← q, ← l]
    exact h _ (I.tok _)
theorem d_write {h' : Heap} {t' : Nat} {ob : HO} (I : Inv X pins σ H s) (mu : Mut (H a)) (hs : Heap.SameBut a s.heap h') (he : ∃ q, h'.get? a = some q) (new : ObjOk X.prog X.w (upd H a ob) h' a ob) :
    Inv X pins σ (upd H a ob) { s with heap := h', toks := t' } :=
  I.write (x := a) (e := a) mu (.inl rfl) (fun b q hb z => (hs.2 b hb).trans z) he new
theorem dk_new {P : Program} {w : World} {H' : Hp} {h' : Heap} {kvs : List (Key × V)} {vs : List (Key × Value)} (z : kvs.length ≤ sizeLine) (hd : (a == sysModules) = false) (rel : KV kvs vs) (dd : h'.DictOf (mixKind P w) a vs) :
    ObjOk P w H' h' a (.dK kvs) := ⟨z, hd, vs, rel, dd⟩
end

section
variable {X : Cx} {pins : List (Addr × Obj)} {σ : St} {H : Hp} {s : Shared} {a : Addr} {kvs : List (Key × V)} {k : Key} {u : Value} {A : Around} {E : Value → Shared → Prop}
end


/-! ### readings and rules -/
def NoSl (i : Expr) : Prop := ∀ ov iv, subscripted i false ov iv = operate [ov, iv] (getItem ov iv)
theorem subD_of {prog : Program} {w : World} {A : Around} {E : Value → Shared → Prop} {s : Shared} {env : Env} {value slice : Expr} {pos : Pos} {T id : String} {Q : Value → Shared → Prop}
    (hl : typeLookup (.type T) "__getitem__" = pure (some (.builtin id))) (hs : NoSl slice)
    (h : wpAny (model prog w) A (eval value env) (fun o s₁ => wpAny (model prog w) A (eval slice env) (fun i s₂ => s₂.TypeIs o T ∧ wpAny (model prog w) A (getItem o i) Q E s₂) E s₁) E s) :
    wpAny (model prog w) A (eval (.Subscript value slice pos) env) Q E s := by
  refine Subscript_ (wpAny_mono h (fun o s₁ h₁ => wpAny_mono h₁ (fun i s₂ h₂ => ?_) fun _ _ x => x) fun _ _ x => x)
  obtain ⟨hT, h₂⟩ := h₂
  unfold subscriptTail
  refine wpAny_bind ?_
  rw [getitemInPython_of_ne hT.not_modules]
  refine wpAny_bind (wpAny_specialOf hT hl ?_)
  have fin : wpAny (model prog w) A (subscripted slice false o i) (fun r s₃ => wpAny (model prog w) A (letTemporaryGo value o r >>= fun _ => pure r) Q E s₃) E s₂ := by
    rw [hs o i]
    exact wpAny_operating (wpAny_mono h₂ (fun r s₃ h₃ => wpAny_bind (wpAny_letTemporaryGo (wpAny_pure h₃))) fun _ _ x => x)
  first
    | exact wpAny_pure (wpAny_bind fin)
    | exact wpAny_bind (wpAny_pure (wpAny_bind fin))
    | exact wpAny_bind fin

theorem dict_typeIs {X : Cx} {pins : List (Addr × Obj)} {σ : St} {H : Hp} {s : Shared} {a : Addr} {y : V} {o : Option V} (I : Inv X pins σ H s) (g : DGet H a y o) : s.TypeIs (.ref a) "dict" := by
  rcases g with ⟨kvs, k, e, _, _⟩ | ⟨kvs, k, b, e, _, _, _⟩
  · obtain ⟨_, _, vs, _, dd⟩ := dk_rd I.hok e
    exact dd.typeIs
  · obtain ⟨_, _, xs, _, dd⟩ := dt_rd I.hok e
    exact dd.typeIs
def tDGet (td ty : TE) : TE := fun σ H Q => td σ H fun x H1 => ty σ H1 fun y H2 => ∃ a v, x = .ref a ∧ DGet H2 a y (some v) ∧ Q v H2
def tDNotIn (ty td : TE) : TE := fun σ H Q => ty σ H fun y H1 => td σ H1 fun x H2 => ∃ a o, x = .ref a ∧ DGet H2 a y o ∧ Q (.bl (!o.isSome)) H2
section
variable {X : Cx} {o i e value : Expr} {pos pos' tpos : Pos} {td ty tv : TE}
theorem pe_dget (hu : X.A.units + 1 < cLine) (ho : PE X o td) (hi : PE X i ty) (hs : NoSl i) : PE X (.Subscript o i pos) (tDGet td ty) := by
  intro pins s σ H Q I h
  refine subD_of PySem.F.slot_dict_getitem.lookup hs (thn (ho pins s σ H _ I h) fun u s1 ⟨x, H1, I1, rx, q1⟩ => thn (hi pins s1 σ H1 _ I1 q1) fun iv s2 ⟨y, H2, I2, ry, a, v, ex, g, q2⟩ => ?_)
  subst ex
  obtain rfl : u = Value.ref a := rx
  exact ⟨dict_typeIs I2 g, d_getItem hu I2 g ry fun w' s3 I3 rw' => ⟨v, H2, I3, rw', q2⟩⟩
theorem pc_dnotin (hu : X.A.units + 1 < cLine) (hi : PE X i ty) (ho : PE X o td) : PC X .NotIn i o (tDNotIn ty td) := by
  intro pins s σ H Q I h
  refine thn (hi pins s σ H _ I h) fun iv s1 ⟨y, H1, I1, ry, q1⟩ => thn (ho pins s1 σ H1 _ I1 q1) fun u s2 ⟨x, H2, I2, rx, a, ov, ex, g, q2⟩ => ?_
  subst ex
  obtain rfl : u = Value.ref a := rx
  exact d_notIn hu I2 g ry fun s3 I3 => ⟨.bl (!ov.isSome), H2, I3, rfl, q2⟩
end


/-! ### displays -/
theorem dk_empty {P : Program} {w : World} {H : Hp} (h : Heap) (hb : sysModules < h.objs.size) : ObjOk P w H (h.push { cls := .type "dict", data := .dict #[] }) h.objs.size (.dK []) :=
  ⟨Nat.zero_le _, beq_eq_false_iff_ne.mpr (Ne.symm (Nat.ne_of_lt hb)), [], .nil, Heap.DictOf.new h⟩
def tDNewK : TE := fun _ H Q => ∀ p, H p = none → Q (.ref p) (upd H p (.dK []))
section
variable {X : Cx} {pos : Pos}
theorem pe_dnewK : PE X (.Dict [] [] pos) tDNewK := fun pins s σ H Q I h =>
  wpAny_Dict_empty ⟨.ref s.heap.objs.size, _, I.laid (a := s.heap.objs.size) (o := .dK []) (t' := s.toks) (fun _ _ q => Heap.get?_push_of_some _ q) (Nat.le_refl _) (dk_empty s.heap I.big), rfl, h _ (I.hok.fresh (Nat.le_refl _))⟩
end

def tPairs : List (TE × TE) → St → Hp → (List (V × V) → Hp → Prop) → Prop
  | [], _, H, Q => Q [] H
  | (tk, tv) :: r, σ, H, Q => tk σ H fun x H1 => tv σ H1 fun y H2 => tPairs r σ H2 fun ps H3 => Q ((x, y) :: ps) H3
abbrev VV : List (V × V) → List (Value × Value) → Prop := Paired fun p q => RelV p.1 q.1 ∧ RelV p.2 q.2
def PPs (X : Cx) (pos : Pos) (keys : List (Option Expr)) (values : List Expr) (trs : List (TE × TE)) : Prop :=
  ∀ (pins : List (Addr × Obj)) (s : Shared) (σ : St) (H : Hp) (Q : List (V × V) → Hp → Prop), Inv X pins σ H s → tPairs trs σ H Q →
    wpAny (model X.prog X.w) X.A (evalPairs (pairTrees keys values X.env pos)) (fun vs s' => ∃ ps H', Inv X pins σ H' s' ∧ VV ps vs ∧ Q ps H') X.xe s
theorem pps_nil {X : Cx} {pos : Pos} : PPs X pos [] [] [] := fun pins s σ H Q I h => pairTrees_nil_walk ⟨[], H, I, .nil, h⟩
theorem pps_cons {X : Cx} {pos : Pos} {k v : Expr} {ks : List (Option Expr)} {vs : List Expr} {tk tv : TE} {trs : List (TE × TE)} (hk : PE X k tk) (hv : PE X v tv) (hr : PPs X pos ks vs trs) :
    PPs X pos (some k :: ks) (v :: vs) ((tk, tv) :: trs) := fun pins s σ H Q I h =>
  pairTrees_cons_walk (thn (hk pins s σ H _ I h) fun u s1 ⟨x, H1, I1, rx, q1⟩ => thn (hv pins s1 σ H1 _ I1 q1) fun w2 s2 ⟨y, H2, I2, ry, q2⟩ =>
    thn (hr pins s2 σ H2 _ I2 q2) fun ws s3 ⟨ps, H3, I3, rel, q3⟩ => ⟨(x, y) :: ps, H3, I3, .cons ⟨rx, ry⟩ rel, q3⟩)

def mergeK (kvs more : List (Key × V)) : List (Key × V) := more.foldl (fun acc kv => putK acc kv.1 kv.2) kvs
theorem KV.merge : ∀ {more : List (Key × V)} {rs : List (Key × Value)} {kvs : List (Key × V)} {vs : List (Key × Value)}, KV more rs → KV kvs vs → KV (mergeK kvs more) (merged vs rs) := by
  intro more rs kvs vs r
  unfold KV at r
  induction r generalizing kvs vs with
  | nil => intro q; exact q
  | @cons p q ps qs h t ih =>
    intro r0
    have e : KV (putK kvs p.1 p.2) (stored vs q.1 q.2) := by
      have := r0.put p.1 h.2
      rw [← h.1]; exact this
    exact ih e
theorem length_mergeK : ∀ (more kvs : List (Key × V)), (mergeK kvs more).length ≤ kvs.length + more.length
  | [], kvs => by show kvs.length ≤ kvs.length + 0; omega
  | p :: r, kvs => by
    have h1 := length_mergeK r (putK kvs p.1 p.2)
    have h2 := length_putK kvs p.1 p.2
    show (mergeK (putK kvs p.1 p.2) r).length ≤ _
    rw [List.length_cons]; omega
theorem carries_of {P : Program} {w : World} : ∀ {kvs : List (Key × V)} {ws : List (Value × Value)}, VV (kvs.map fun kv => (kV kv.1, kv.2)) ws → ∃ rs, Carries (mixKind P w) ws rs ∧ KV kvs rs
  | [], _, r => by rw [List.map_nil] at r; cases r; exact ⟨[], True.intro, .nil⟩
  | p :: kvs, _, r => by
    rw [List.map_cons] at r
    cases r with
    | @cons a b as bs h t =>
      obtain ⟨rs, c, q⟩ := carries_of (P := P) (w := w) t
      obtain ⟨b1, b2⟩ := b
      exact ⟨(p.1, b2) :: rs, ⟨kV_is h.1, rfl, c⟩, .cons ⟨rfl, h.2⟩ q⟩
def tDisp (trs : List (TE × TE)) : TE := fun σ H Q => ∀ p, H p = none → tPairs trs σ (upd H p (.dK [])) fun ps H2 => H2 p = some (.dK []) ∧ ∃ kvs : List (Key × V), ps = kvs.map (fun kv => (kV kv.1, kv.2)) ∧ kvs.length ≤ 15 ∧ Q (.ref p) (upd H2 p (.dK (mergeK [] kvs)))
theorem pe_disp {X : Cx} {pos : Pos} {keys : List (Option Expr)} {values : List Expr} {trs : List (TE × TE)} (h : PPs X pos keys values trs) (hall : keys.all (·.isSome) = true) (hl : keys.length = values.length) (h0 : keys ≠ [])
    (h15 : keys.length ≤ 15) : PE X (.Dict keys values pos) (tDisp trs) := by
  intro pins s σ H Q I q
  have hn := I.hok.fresh (Nat.le_refl s.heap.objs.size)
  have I1 := I.laid (a := s.heap.objs.size) (o := .dK []) (h' := s.heap.push { cls := .type "dict", data := .dict #[] }) (t' := s.toks) (fun _ _ q => Heap.get?_push_of_some _ q) (Nat.le_refl _) (dk_empty s.heap I.big)
  refine wpAny_Dict_walk (knd := mixKind X.prog X.w) hall hl h0 h15 (thn (h pins _ σ _ _ I1 (q _ hn)) fun ws s2 ⟨ps, H2, I2, rel, e, kvs, ep, lk, q2⟩ => ?_)
  subst ep
  obtain ⟨rs, c, rk⟩ := carries_of (P := X.prog) (w := X.w) rel
  obtain ⟨z, hd, vs0, r0, dd⟩ := dk_of I2.hok e
  cases r0
  refine ⟨rs, c, dd, fun h' dd' hs => ⟨.ref s.heap.objs.size, _, ?_, rfl, q2⟩⟩
  have hz : (mergeK [] kvs).length ≤ sizeLine := by
    have h1 := length_mergeK kvs []
    rw [List.length_nil] at h1
    rw [sizeLine_eq]; omega
  have he : ∃ q, h'.get? s.heap.objs.size = some q := let ⟨q, _, _, hq, _⟩ := dd'; ⟨q, hq⟩
  exact d_write I2 (by rw [e]; exact True.intro) hs he (dk_new hz hd (rk.merge .nil) dd')


/-! ### methods -/
section
variable {X : Cx} {pins : List (Addr × Obj)} {σ : St} {H : Hp} {s : Shared} {a : Addr} {y d : V} {u r : Value} {o : Option V} {A : Around} {E : Value → Shared → Prop}
end

section
variable {X : Cx} {o e f : Expr} {apos cpos : Pos} {td ty tx : TE}
end

end L2

set_option maxHeartbeats 4000000
/-! boards: lists of tuples of ints; products of great ints; all(..) of bools; the script's weight -/
namespace L2
open PySem PySem.Spec PyProof.Rows
def CMulG (i j : Int) : Prop := ∃ a b, Sz a i ∧ Sz b j ∧ a + b ≤ 100000000
theorem CMulG.ok {i j : Int} (h : CMulG i j) : IntMulOk i j := by
  obtain ⟨a, b, h1, h2, h3⟩ := h
  have e1 := h1.bits
  have e2 := h2.bits
  unfold IntMulOk
  rw [show Builtin.Int.intTooBig (Builtin.Int.intBits i + Builtin.Int.intBits j) = false by
    unfold Builtin.Int.intTooBig
    have : bitsLine = 134217728 := rfl
    rw [this]
    exact decide_eq_false (by omega)]
  simp
section
variable {X : Cx}
theorem op_mulG : OpR X (binaryOp .Mult) (rI CMulG fun i j => .int (i * j)) := opI fun _ _ _ _ _ _ _ hc q => mul_int q hc.ok
theorem call_allL (hc : X.calm = true) : CallR X (.builtin "all") (fun xs H Q => ∃ (p : Addr) (bs : List Bool), xs = [.ref p] ∧ SqL X.K H p (bs.map V.bl) ∧ Q (.bl (bs.all id)) H) := by
  intro pins s σ H xs us Q I r h
  obtain ⟨p, bs, rfl, hq, q⟩ := h
  obtain ⟨u, rfl, ru⟩ := r.one
  cases ru
  obtain ⟨its, rv, pl, hz⟩ := I.list hq
  have hlen : its.length = bs.length := by rw [← rv.length, List.length_map]
  refine call_all_walk (wpAny_pyIter_list pl.isList ?_)
  have W := Walks.list (prog := X.prog) (w := X.w) (A := X.A.in1) (show X.A.in1.handled = none from I.ok.hd hc) s.heap.objs.size p (by
    obtain ⟨o, e, _⟩ := pl.isList
    exact Nat.ne_of_lt (Heap.lt_size e)) its.toArray
  refine ⟨s.heap.objs.size, _, _, _, _, _, fun i => bs.getD i false, rfl, W, ⟨⟨_, Heap.get?_push_size _ rfl, rfl, rfl⟩, pl.isList.push _⟩, ?_, fun h' tk hk => ?_⟩
  · intro i v s' Q' E' hv hQ
    have hv' : its[i]? = some v := by simpa using hv
    have hi : i < bs.length := by rw [← hlen]; exact (List.getElem?_eq_some_iff.mp hv').1
    obtain ⟨u, hu, ru⟩ := rv.get (show (bs.map V.bl)[i]? = some (.bl (bs.getD i false)) by simp [hi])
    rw [hv'] at hu
    cases hu
    cases ru
    exact wpAny_truthy_bool hQ
  · have e : (List.range its.toArray.size).all (fun i => bs.getD i false) = bs.all id := by
      rw [List.size_toArray, hlen, Bool.eq_iff_iff, List.all_eq_true, List.all_eq_true]
      constructor
      · intro z b hb
        obtain ⟨i, hi, rfl⟩ := List.mem_iff_getElem.mp hb
        have := z i (List.mem_range.mpr hi)
        simpa [hi] using this
      · intro z i hi
        have hi' : i < bs.length := List.mem_range.mp hi
        have := z bs[i] (List.getElem_mem hi')
        simpa [hi'] using this
    rw [e]
    refine ⟨.bl (bs.all id), H, ?_, rfl, q⟩
    exact I.kept (t' := tk) fun b o eo => hk b o (by simp; exact Nat.ne_of_lt (Heap.lt_size eo)) (Heap.get?_push_of_some _ eo)
end
/-! ### == of lists of tuples of ints -/
section
variable {P : Program} {w : World} {H : Hp} {h : Heap}
end
section
variable {X : Cx}
end
section
variable {X : Cx} {scope : Scope} {Nc : List Str} {ex : List Addr} {pins : List (Addr × Obj)} {s : Shared} {H : Hp}
end
end L2

set_option maxHeartbeats 4000000
/-! the script's ints weigh 2 ^ 20 places at most -/
namespace L2
open PySem PySem.W PySem.Calls PySem.Spec PyProof.Rows
def Light (ns : List Int) : Prop := ∀ n ∈ ns, Sz 1048576 n
theorem light_weight : ∀ {ns : List Int} {W : Nat}, WData.weightAll (ns.map WData.int) ≤ W → ∀ n ∈ ns, Sz W n
  | m :: r, W, h, n, hn => by
    simp only [List.map_cons, WData.weightAll, WData.weight] at h
    rcases List.mem_cons.mp hn with rfl | hn
    · unfold Sz
      by_cases z : n = 0
      · subst z; exact Nat.two_pow_pos _
      · have zb : (n == 0) = false := by simpa using z
        rw [zb, if_neg (by simp)] at h
        have h1 : n.natAbs.log2 < W := by omega
        exact (Nat.log2_lt (by omega)).mp h1
    · exact light_weight (W := W) (by omega) n hn
theorem light_of {ns : List Int} (h : WData.layableAll [WData.list (ns.map WData.int)] = true) : Light ns := by
  simp only [WData.layableAll, List.all_cons, List.all_nil, Bool.and_true, WData.layable, Bool.and_eq_true, decide_eq_true_eq] at h
  exact light_weight (W := 1048576) (by have := h.2; simpa [WData.weight] using this)
theorem attach_light {l : OpenLaw} {n : Nat} {q : Program} {loose : List Str} {XP : (Str → Option Value) → Heap → Prop} {YP : World → Heap → Prop} {d : DefRec}
    (hn : l.most = some n) (hdf : d.params.defaults = [])
    (call : ∀ (w : World) (s₀ s₁ : Shared) (mg mb : Str → Option Value) (fa : Addr) (o : Obj) (pm cd doc : Value) (a : Addr) (vs : List Value) (ns : List Int), Light ns →
      Ground q loose [] XP w s₀ mg mb s₁.heap → YP w s₁.heap →
      s₁.heap.get? fa = some o → o.data = .func (docDef d.name d.params d.body d.scope pm cd doc) → s₁.heap.CodeRec cd d.name → mg d.name = some (.ref fa) →
      s₁.heap.get? a = some { cls := .type "list", data := .seq vs.toArray } → IntsAre vs ns → ns.length ≤ n → s₁.gens = #[] →
      codeAny (model l.prog w) callerA (.call (.ref fa) ⟨[.ref a], []⟩) (fun r s' => r = .ok (.ret (.bool true)) ∧ OldK s₁.heap s'.heap ∧ s'.os = s₁.os ∧ AllBare s'.gens) s₁) :
    WalkO q loose XP YP l.row.toRowW d [] (fun f vs => PySem.call f vs) := by
  intro w s₀ s₁ mg mb G Y fa o pm cd doc dV kV ho hd hcd hD hmg hg args vals as hpre hlay hrd hwl hlo
  obtain rfl : dV = .none := Dflts.none hD hdf
  obtain rfl : kV = .none := Dflts.noKw hD
  obtain ⟨a, vs, ns, rfl, rfl, hobj, hints, hlen⟩ := Att.script_of hn hpre hwl
  refine enter_call (codeAny_mono (call w s₀ s₁ mg mb fa o pm cd doc a vs ns (light_of hlay) G Y ho (fd_plain hd) hcd hmg hobj hints hlen hg) fun r s' hq => ?_)
  obtain ⟨rfl, h2, h3, h4⟩ := hq
  exact ⟨.inl ⟨.bool true, .bool true, [], rfl, fun _ => rfl, .bool true, Att.post_true l _, fun _ => ⟨List.Pairwise.nil, fun _ hm => (nomatch hm)⟩⟩, h2, h3, h4⟩
theorem walk_light {l : PySem.W.OpenLaw} {n k : Nat} {q : Program} {loose : List Str} {XP : (Str → Option Value) → Heap → Prop} {YP : World → Heap → Prop} {d : DefRec} {K : Params → PySem.W.Frag} {CX : World → CXT} {sp : World → Sp} {x : Str}
    (hn : l.most = some n) (hn2 : n ≤ sizeLine) (hdf : d.params.defaults = []) (hr : Room k callerA)
    (hY : ∀ (w : World) (h : Heap), YP w h → (K w.params).In h)
    (F : ∀ (w : World) (mg : Str → Option Value) (fa : Addr) (h : Heap), (K w.params).In h → h.Ns mainGlobals mg → mg d.name = some (.ref fa) →
      ∃ fd : FuncData, (∀ (s : Shared) (u : Value), BindsTo s fd ⟨[u], []⟩ [(x, u)]) ∧
        ∀ base : Heap, (K w.params).In base → base.Ns mainGlobals mg → FnOk l.prog w (K w.params) mg base (CX w) k fa fd [x] (sp w))
    (hsp : ∀ (w : World) (H : Hp) (a : Addr) (ns : List Int), ns.length ≤ n → Light ns → SqL (K w.params) H a (ns.map V.int) → sp w [.ref a] H (fun v _ => v = .bl true) fun _ _ _ => False)
    (hCX : ∀ (w : World) (H : Hp) (s : Shared) (e : Value) (s' : Shared), CX w [] H s (fun _ _ _ => False) e s' → False) :
    PySem.W.WalkO q loose XP YP l.row.toRowW d [] (fun f vs => PySem.call f vs) := by
  refine attach_light hn hdf fun w s₀ s₁ mg mb fa o pm cd doc a vs ns lt G Y ho hd hcd hmg hobj hints hlen hg => ?_
  have KX := hY w _ Y
  obtain ⟨fd, hb, hF⟩ := F w mg fa _ KX G.T.g hmg
  exact law_call KX G.T.g G.T.b G.T.builtins G.T.nolimit hg hobj hints (Nat.le_trans hlen hn2) hr hF hb (fun H _ hS => hsp w H a ns hlen lt hS) fun H e s' => hCX w H s₁ e s'
end L2

set_option maxHeartbeats 4000000
/-! what the laws over boards share: amounts, boards, and what their helpers promise -/
namespace Ba
open PySem PySem.Spec PyProof.Rows L2 Am Pc
abbrev T5 (a b c d h : Int) : HO := .tup [.int a, .int b, .int c, .int d, .int h]
structure Red (a b c d h x y z u g : Int) : Prop where
  amt : Amt x y z u g
  same : Same4 a b c d h x y z u g
  s1 : x.natAbs ≤ a.natAbs
  s2 : y.natAbs ≤ b.natAbs
  s3 : z.natAbs ≤ c.natAbs
  s4 : u.natAbs ≤ d.natAbs
  le : g ≤ h
structure Sz4 (n : Nat) (a b c d : Int) : Prop where
  z1 : Sz n a
  z2 : Sz n b
  z3 : Sz n c
  z4 : Sz n d
theorem Red.sz {a b c d h x y z u g : Int} {n : Nat} (r : Red a b c d h x y z u g) (s : Sz4 n a b c d) : Sz4 n x y z u := ⟨s.z1.le r.s1, s.z2.le r.s2, s.z3.le r.s3, s.z4.le r.s4⟩
theorem Sz4.mono {m n : Nat} {a b c d : Int} (s : Sz4 m a b c d) (h : m ≤ n) : Sz4 n a b c d := ⟨s.z1.mono h, s.z2.mono h, s.z3.mono h, s.z4.mono h⟩
def rot : Nat → Int × Int × Int × Int → Int × Int × Int × Int
  | 0, v => v
  | n + 1, v => let (a, b, c, d) := rot n v; (-d, a, b, c)
abbrev T4 (v : Int × Int × Int × Int) (h : Int) : HO := T5 v.1 v.2.1 v.2.2.1 v.2.2.2 h
abbrev A5 := (Int × Int × Int × Int) × Int
abbrev tA (x : A5) : HO := T4 x.1 x.2
def spin (x : A5) (k : Int) : A5 := (rot (k % 8).toNat x.1, x.2)
structure Ok5 (n : Nat) (m : Int) (x : A5) : Prop where
  sz : Sz4 n x.1.1 x.1.2.1 x.1.2.2.1 x.1.2.2.2
  amt : Amt x.1.1 x.1.2.1 x.1.2.2.1 x.1.2.2.2 x.2
  le : x.2 ≤ m
theorem Ok5.mono {n n' : Nat} {m m' : Int} {x : A5} (o : Ok5 n m x) (h : n ≤ n') (h' : m ≤ m') : Ok5 n' m' x := ⟨o.sz.mono h, o.amt, Int.le_trans o.le h'⟩
theorem ok_rot {n : Nat} {m : Int} {v : Int × Int × Int × Int} {h : Int} (o : Ok5 n m (v, h)) : ∀ k, Ok5 n m (rot k v, h)
  | 0 => o
  | k + 1 => by
    have := ok_rot o k
    show Ok5 n m ((-(rot k v).2.2.2, (rot k v).1, (rot k v).2.1, (rot k v).2.2.1), h)
    refine ⟨⟨this.sz.z4.neg, this.sz.z1, this.sz.z2, this.sz.z3⟩, ⟨this.amt.nn, ?_⟩, this.le⟩
    have o : h = 0 ∨ (rot k v).1 % 2 = 1 ∨ (rot k v).2.1 % 2 = 1 ∨ (rot k v).2.2.1 % 2 = 1 ∨ (rot k v).2.2.2 % 2 = 1 := this.amt.odd
    show h = 0 ∨ (-(rot k v).2.2.2) % 2 = 1 ∨ (rot k v).1 % 2 = 1 ∨ (rot k v).2.1 % 2 = 1 ∨ (rot k v).2.2.1 % 2 = 1
    omega
def l5 (x : A5) : List Int := [x.1.1, x.1.2.1, x.1.2.2.1, x.1.2.2.2, x.2]
def cell (ns : List Int) (i : Int) : Int := if i < ns.length then ns.getD i.toNat 0 else 0
def spCell (K : PySem.W.Frag) : Sp := fun vs H Q _ => ∃ (a : Addr) (ns : List Int) (i : Int), vs = [.ref a, .int i] ∧ SqL K H a (ns.map V.int) ∧ 0 ≤ i ∧ Q (.int (cell ns i)) H
def spWhole : Sp := fun vs H Q _ => ∃ i : Int, vs = [.int i] ∧ Q (.bl true) H
def spLaw (K : PySem.W.Frag) (n : Nat) : Sp := fun vs H Q _ => ∃ (a : Addr) (ns : List Int), vs = [.ref a] ∧ SqL K H a (ns.map V.int) ∧ ns.length ≤ n ∧ Light ns ∧ ∀ H', Q (.bl true) H'
theorem at_map {ns : List Int} {i : Int} (h0 : 0 ≤ i) (h : i < ns.length) : atI (ns.map V.int) i = some (.int (ns.getD i.toNat 0)) := by
  have hk : i.toNat < ns.length := by omega
  have ek : i = ((i.toNat : Nat) : Int) := by omega
  have q : atI (ns.map V.int) ((i.toNat : Nat) : Int) = some (.int ns[i.toNat]) := atI_nat (by rw [List.getElem?_map, List.getElem?_eq_getElem hk] <;> rfl)
  rw [← ek] at q
  rw [q, List.getD_eq_getElem?_getD, List.getElem?_eq_getElem hk]
  rfl
theorem t2 : 2 ≤ sizeLine := by decide
theorem t3 : 3 ≤ sizeLine := by decide
theorem t4 : 4 ≤ sizeLine := by decide
theorem t64 {n : Nat} (h : n ≤ 64) : n ≤ sizeLine := Nat.le_trans h (by decide)
theorem pow6 {n : Nat} (h : n ≤ 6) : 2 ^ n ≤ 64 := Nat.le_trans (Nat.pow_le_pow_right (by decide) h) (by decide)
theorem ipow (n : Nat) : (1 : Int) * 2 ^ ((n : Int).toNat) = ((2 ^ n : Nat) : Int) := by simp
theorem sz1 : Sz 1 1 := by decide +kernel
theorem p_3 : (0 : Int) < 3 := by decide
theorem p_7 : (0 : Int) < 7 := by decide
theorem p_big : (0 : Int) < 2147483647 := by decide
theorem kit_tt (K : PySem.W.Frag) : PySem.W.kitOne K (.type "tuple") (.type "tuple") = some true := by unfold PySem.W.kitOne; rw [if_pos (by decide)]
end Ba

set_option maxHeartbeats 4000000
namespace K36
open PySem PySem.Spec PyProof.Rows L2 Am Pc Ba
def top (i : Nat) : Stmt := PySem.Challenge.pw_spinboard_k36_moves_refused.main.body.getD i (.Pass ⟨0, 0, 0, 0⟩)
structure Bs (mg : Str → Option Value) : Prop where
  isinstance : mg "isinstance" = none
  int : mg "int" = none
  bool : mg "bool" = none
  tuple : mg "tuple" = none
  list : mg "list" = none
  len : mg "len" = none
  range : mg "range" = none
  all : mg "all" = none
  any : mg "any" = none
  max : mg "max" = none
  min : mg "min" = none
  zip : mg "zip" = none
  set : mg "set" = none
  str : mg "str" = none
  enumerate : mg "enumerate" = none
  reversed : mg "reversed" = none
section
variable {P : Program} {w : World} {K : PySem.W.Frag} {mg : Str → Option Value} {base : Heap} {k : Nat} {h : Heap}

theorem sc_cell : FnScope ["_law_script", "_law_k"] ["_law_script", "_law_k"] (defScope (top 45)) := ⟨rfl, rfl, rfl, by decide +kernel, rfl, by decide +kernel, by decide +kernel⟩
theorem ok_cell (F : FunAt K "_law_cell_at" (top 45) .none) (X : K.In h) (G : h.Ns mainGlobals mg) (B : Bs mg) : Cal P w K mg base (k + 1) "_law_cell_at" ["_law_script", "_law_k"] (spCell K) := by
  have nd := sc_cell.nd
  refine F.cal X G sc_cell (bnd2 fun _ _ _ _ _ _ _ _ => rfl) (fun vs H Q E h => ?_) (fun f cdv A outer s H vs Q E hr h => ?_)
  · obtain ⟨a, ns, i, rfl, _⟩ := h; rfl
  obtain ⟨a, ns, i, rfl, hS, h0, q⟩ := h
  refine ⟨_, (@pss_cons _ _ _ _ _ (ps_if (pt_cmpR op_lt (pv 1) (pe_callB call_len_seq rfl B.len PySem.boot_len (pa_cons (pv 0) pa_nil)) (nomark _))
      (@pss_one _ _ _ (ps_ret (pe_ix ix_list (pv 0) (pv 1) (fun _ _ => rfl))))
      pss_nil)
    (@pss_one _ _ _ (ps_ret pe_int))), ?_⟩
  try dsimp only [cxK]
  have hl : (ns.map V.int).length = ns.length := List.length_map _
  refine ⟨_, rfl, _, rfl, a, _, rfl, .inl hS, _, _, rfl, rfl, _, rfl, decI (fun c => ?_) (fun c => ?_)⟩
  · rw [hl] at c
    refine ⟨_, rfl, _, rfl, a, _, _, _, rfl, rfl, hS, at_map h0 c, ?_⟩
    unfold cell at q
    rw [if_pos c] at q
    exact q
  · rw [hl] at c
    unfold cell at q
    rw [if_neg c] at q
    exact q

theorem sc_whole : FnScope ["_law_found"] ["_law_found"] (defScope (top 46)) := ⟨rfl, rfl, rfl, by decide +kernel, rfl, by decide +kernel, by decide +kernel⟩
end
end K36

set_option maxHeartbeats 4000000
namespace K36
open PySem PySem.Spec PyProof.Rows L2 Am Pc Ba
section
variable {P : Program} {w : World} {K : PySem.W.Frag} {mg : Str → Option Value} {base : Heap} {k : Nat} {h : Heap}

theorem sz_small {x : Int} (h1 : -16 < x) (h2 : x < 16) : Sz 100 x := Sz.mono (j := 5) (by unfold Sz; omega) (by decide)
theorem s_0 : Sz 100 0 := sz_small (by decide) (by decide)
theorem s_1 : Sz 100 1 := sz_small (by decide) (by decide)
theorem forty : (0 : Int) ≤ 40 := by decide
end
end K36

set_option maxHeartbeats 4000000
namespace K36
open PySem PySem.Spec PyProof.Rows L2 Am Pc Ba
section
variable {P : Program} {w : World} {K : PySem.W.Frag} {mg : Str → Option Value} {base : Heap} {k : Nat} {h : Heap}

def At5 (K : PySem.W.Frag) (H : Hp) (p : Addr) (x : A5) : Prop := SqT K H p ((l5 x).map V.int)
theorem At5.of {K : PySem.W.Frag} {H : Hp} {p : Addr} {x : A5} (h : H p = some (tA x)) : At5 K H p x := SqT.of h
theorem At5.same {K : PySem.W.Frag} {H H' : Hp} {p : Addr} {x : A5} (h : At5 K H p x) (s : Same H H') : At5 K H' p x := s.tup h
theorem At5.upd {K : PySem.W.Frag} {H : Hp} {p l : Addr} {x : A5} {xs ys : List V} (h : At5 K H p x) (e : H l = some (.lst xs)) : At5 K (upd H l (.lst ys)) p x := by
  rcases h with h | h
  · rcases h with h | ⟨o, h⟩
    · exact .inl (.inl (by rw [upd_ne (ne_of h e (by intro z; cases z))]; exact h))
    · exact .inl (.inr ⟨o, by rw [upd_ne (ne_of h e (by intro z; cases z))]; exact h⟩)
  · exact .inr h
def ValsK (K : PySem.W.Frag) (H : Hp) (ps : List Addr) (f : Nat → A5) : Prop := ∀ i p, ps[i]? = some p → At5 K H p (f i)
theorem ValsK.same {K : PySem.W.Frag} {H H' : Hp} {ps : List Addr} {f : Nat → A5} (v : ValsK K H ps f) (s : Same H H') : ValsK K H' ps f := fun i p e => (v i p e).same s
theorem vals_push {K : PySem.W.Frag} {H H' : Hp} {ps : List Addr} {f : Nat → A5} {p : Addr} {x : A5} (v : ValsK K H ps f) (s : Same H H') (e : At5 K H' p x) : ValsK K H' (ps ++ [p]) (fun j => if j = ps.length then x else f j) := by
  intro i q hq
  by_cases hi : i < ps.length
  · rw [List.getElem?_append_left hi] at hq
    show At5 K H' q (if i = ps.length then x else f i)
    rw [if_neg (by omega)]
    exact (v i q hq).same s
  · rw [List.getElem?_append_right (by omega)] at hq
    have hi2 : i = ps.length := by
      have := (List.getElem?_eq_some_iff.mp hq).1
      simp at this
      omega
    subst hi2
    simp at hq
    subst hq
    show At5 K H' _ (if ps.length = ps.length then x else f ps.length)
    rw [if_pos rfl]
    exact e
theorem vals_upd {K : PySem.W.Frag} {H : Hp} {ps : List Addr} {f : Nat → A5} {l : Addr} {xs ys : List V} (v : ValsK K H ps f) (e : H l = some (.lst xs)) : ValsK K (upd H l (.lst ys)) ps f := fun i q hq => (v i q hq).upd e
end
end K36

set_option maxHeartbeats 4000000
namespace K36
open PySem PySem.Spec PyProof.Rows L2 Am Pc Ba
theorem lc_tupM {K : PySem.W.Frag} {a : Addr} {ns : List Int} {te : TE} {fr : L2.St} {H1 : Hp} {acc : Addr} {Q : VK} (f : Int → V) (hl : SqT K H1 a (ns.map V.int)) (hn : ns.length ≤ sizeLine) (hacc : H1 acc = none) (hs : ∀ n H (N : V → Hp → Prop), n ∈ ns → Same H1 H → N (f n) H → te (some (.int n) :: fr) H N)
    (hd : ∀ H2, Same H1 H2 → H2 acc = some (.lst (ns.map f)) → Q (.ref acc) H2) : LcW (Itt K a) (gName 0) te (none :: fr) H1 acc Q := by
  refine lc_pure (n := ns.length) (val := fun i => .int (ns.getD i 0)) (fun i => f (ns.getD i 0)) hn hacc (fun i H hi s => ?_) (fun H s => ⟨_, s.tup hl, by simp⟩) (fun i H N hi s kN => hs _ H N (by simp [hi]) s kN) (fun H2 s h => hd H2 s (by rw [h, range_map]))
  have e : (ns.map V.int)[i]? = some (.int (ns.getD i 0)) := by simp [hi]
  refine ⟨⟨_, _, s.tup hl, e⟩, fun x H' y => ⟨y.1, ?_⟩⟩
  have := y.2 _ (s.tup hl)
  rw [e] at this
  exact (Option.some.inj this).symm
theorem cut54 : ¬ (HT.sIx 5 0 none = 0 ∧ HT.sIx 5 5 (some 4) = 5) := by decide
end K36

set_option maxHeartbeats 4000000
namespace K36
open PySem PySem.Spec PyProof.Rows L2 Am Pc Ba
def spHalf : Sp := fun vs H Q _ => ∃ a b c d h : Int, vs = [.int a, .int b, .int c, .int d, .int h] ∧ 0 ≤ h ∧ ∀ (p : Addr) (H' : Hp) (x y z u g : Int), Same H H' → H' p = some (T5 x y z u g) → Red a b c d h x y z u g → Q (.ref p) H'
def spRooted : Sp := fun vs H Q _ => ∃ (p : Addr) (a b c d h : Int), vs = [.ref p] ∧ H p = some (T5 a b c d h) ∧ 0 ≤ h ∧ ∀ (r : Addr) (H' : Hp) (x y z u g : Int), Same H H' → H' r = some (T5 x y z u g) → Red (b - d) (a + c) (b + d) (c - a) (h + 1) x y z u g → Q (.ref r) H'
def spOnceK (K : PySem.W.Frag) : Sp := fun vs H Q _ => ∃ (p : Addr) (a b c d h : Int), vs = [.ref p] ∧ At5 K H p ((a, b, c, d), h) ∧ ∀ (r : Addr) (H' : Hp), Same H H' → H' r = some (T5 (-d) a b c h) → Q (.ref r) H'
def spSpunK (K : PySem.W.Frag) : Sp := fun vs H Q _ => ∃ (p : Addr) (a b c d h k : Int), vs = [.ref p, .int k] ∧ At5 K H p ((a, b, c, d), h) ∧ ∀ (r : Addr) (H' : Hp), Same H H' → At5 K H' r (rot (k % 8).toNat (a, b, c, d), h) → Q (.ref r) H'
section
variable {P : Program} {w : World} {K : PySem.W.Frag} {mg : Str → Option Value} {base : Heap} {k : Nat} {h : Heap}
theorem sc_half : FnScope ["a", "b", "c", "d", "h", "places", "lowest", "less"] ["a", "b", "c", "d", "h"] (defScope (top 16)) := ⟨rfl, rfl, rfl, by decide +kernel, rfl, by decide +kernel, by decide +kernel⟩
theorem ok_half (F : FunAt K "halved_out" (top 16) .none) (X : K.In h) (G : h.Ns mainGlobals mg) (B : Bs mg) : Cal P w K mg base (k + 1) "halved_out" ["a", "b", "c", "d", "h"] spHalf := by
  have nd := sc_half.nd
  refine F.cal X G sc_half (bnd5 fun _ _ _ _ _ _ _ _ _ _ _ => rfl) (fun vs H Q E h => ?_) (fun f cdv A outer s H vs Q E hr h => ?_)
  · obtain ⟨a, b, c, d, h, rfl, _⟩ := h; rfl
  obtain ⟨a, b, c, d, h, rfl, h0, q⟩ := h
  refine ⟨_, (@pss_cons _ _ _ _ _ (@ps_set _ _ 5 _ _ _ _ nd rfl (Or.inl rfl) (pe_op op_or (pe_op op_or (pe_op op_or (pv 0) (pv 1)) (pv 2)) (pv 3)) rfl (.inl rfl))
    (@pss_cons _ _ _ _ _ (ps_if (pt_cmpR op_eq (pv 5) pe_int (nomark _))
      (@pss_one _ _ _ (ps_ret (@pe_tup _ _ _ _ _ (pa_cons pe_int (pa_cons pe_int (pa_cons pe_int (pa_cons pe_int (pa_cons pe_int pa_nil))))))))
      pss_nil)
    (@pss_cons _ _ _ _ _ (@ps_set _ _ 6 _ _ _ _ nd rfl (Or.inl rfl) (pe_op op_sub (pe_bm0 PySem.F.plainAttrs_int PySem.F.slot_int_bit_length PySem.F.type_int_bit_length mt_bitlen (pe_op op_and (pv 5) (pe_un un_neg (pv 5)))) pe_int) rfl (.inl rfl))
    (@pss_cons _ _ _ _ _ (@ps_set _ _ 7 _ _ _ _ nd rfl (Or.inl rfl) (pe_callB (call_min2 rfl) rfl B.min boot_min (pa_cons (pv 6) (pa_cons (pv 4) pa_nil))) rfl (.inl rfl))
    (@pss_one _ _ _ (ps_ret (@pe_tup _ _ _ _ _ (pa_cons (pe_op op_shr (pv 0) (pv 7)) (pa_cons (pe_op op_shr (pv 1) (pv 7)) (pa_cons (pe_op op_shr (pv 2) (pv 7)) (pa_cons (pe_op op_shr (pv 3) (pv 7)) (pa_cons (pe_op op_sub (pv 4) (pv 7)) pa_nil)))))))))))), ?_⟩
  try dsimp only [cxK]
  refine ⟨_, rfl, _, rfl, _, _, rfl, rfl, _, rfl, _, _, rfl, rfl, _, rfl, _, _, rfl, rfl, ?_⟩
  refine ⟨_, rfl, rfl, _, rfl, eqI (fun e => ?_) (fun e => ?_)⟩
  · obtain ⟨rfl, rfl, rfl, rfl⟩ := orAll_zero.mp e
    exact ⟨by show 5 ≤ sizeLine; decide, fun p hp => q p _ 0 0 0 0 0 (same_new hp _) upd_same ⟨⟨by omega, .inl rfl⟩, ⟨by simp [Eq2], by simp [Eq2], by simp [Eq2], by simp [Eq2]⟩, Nat.le_refl _, Nat.le_refl _, Nat.le_refl _, Nat.le_refl _, h0⟩⟩
  obtain ⟨v, ev, hd, hn⟩ := lowest e
  obtain ⟨m0, m1, ha, hs, b1, b2, b3, b4⟩ := halve h0 hd hn rfl
  have ev' : ((Builtin.Int.intBits (Builtin.bitAnd (Builtin.bitOr (Builtin.bitOr (Builtin.bitOr a b) c) d) (-(Builtin.bitOr (Builtin.bitOr (Builtin.bitOr a b) c) d))) : Nat) : Int) - 1 = v := ev
  refine ⟨_, rfl, _, rfl, _, rfl, _, _, rfl, rfl, rfl, _, rfl, rfl, _, _, rfl, rfl, ?_⟩
  show tSeq _ _ _ (List.set _ 6 (some (V.int (((Builtin.Int.intBits (Builtin.bitAnd (Builtin.bitOr (Builtin.bitOr (Builtin.bitOr a b) c) d) (-(Builtin.bitOr (Builtin.bitOr (Builtin.bitOr a b) c) d))) : Nat) : Int) - 1)))) H
  rw [ev']
  generalize hm : (if h < (v : Int) then h else (v : Int)) = m at *
  refine ⟨_, rfl, _, rfl, _, _, rfl, ?_⟩
  rw [hm]
  refine ⟨_, rfl, _, rfl, _, _, rfl, rfl, m0, _, rfl, _, rfl, _, _, rfl, rfl, m0, _, rfl, _, rfl, _, _, rfl, rfl, m0, _, rfl, _, rfl, _, _, rfl, rfl, m0, _, rfl, _, rfl, _, _, rfl, rfl, (by show 5 ≤ sizeLine; decide), fun p hp => ?_⟩
  exact q p _ _ _ _ _ _ (same_new hp _) upd_same ⟨ha, hs, b1, b2, b3, b4, by omega⟩
theorem sc_once : FnScope ["one"] ["one"] (defScope (top 20)) := ⟨rfl, rfl, rfl, by decide +kernel, rfl, by decide +kernel, by decide +kernel⟩
theorem ok_once (F : FunAt K "spun_once" (top 20) .none) (X : K.In h) (G : h.Ns mainGlobals mg) : Cal P w K mg base (k + 1) "spun_once" ["one"] (spOnceK K) := by
  have nd := sc_once.nd
  refine F.cal X G sc_once (bnd1 fun _ _ _ _ _ _ _ => rfl) (fun vs H Q E h => ?_) (fun f cdv A outer s H vs Q E hr h => ?_)
  · obtain ⟨p, a, b, c, d, h, rfl, _⟩ := h; rfl
  obtain ⟨p, a, b, c, d, h, rfl, hp, q⟩ := h
  have S : SqT K H p [.int a, .int b, .int c, .int d, .int h] := hp
  refine ⟨_, (@pss_one _ _ _ (ps_ret (@pe_tup _ _ _ _ _ (pa_cons (pe_un un_neg (pe_ix ix_tup (pv 0) pe_int (fun _ _ => rfl))) (pa_cons (pe_ix ix_tup (pv 0) pe_int (fun _ _ => rfl)) (pa_cons (pe_ix ix_tup (pv 0) pe_int (fun _ _ => rfl)) (pa_cons (pe_ix ix_tup (pv 0) pe_int (fun _ _ => rfl)) (pa_cons (pe_ix ix_tup (pv 0) pe_int (fun _ _ => rfl)) pa_nil)))))))), ?_⟩
  try dsimp only [cxK]
  refine ⟨_, rfl, p, _, _, _, rfl, rfl, S, rfl, _, rfl, _, rfl, p, _, _, _, rfl, rfl, S, rfl, _, rfl, p, _, _, _, rfl, rfl, S, rfl, _, rfl, p, _, _, _, rfl, rfl, S, rfl, _, rfl, p, _, _, _, rfl, rfl, S, rfl, (by show 5 ≤ sizeLine; decide), fun r hr => ?_⟩
  exact q r _ (same_new hr _) upd_same
theorem sc_rooted : FnScope ["one"] ["one"] (defScope (top 21)) := ⟨rfl, rfl, rfl, by decide +kernel, rfl, by decide +kernel, by decide +kernel⟩
theorem ok_rooted (F : FunAt K "rooted" (top 21) .none) (X : K.In h) (G : h.Ns mainGlobals mg) (c_halved_out : Cal P w K mg base k "halved_out" ["a", "b", "c", "d", "h"] spHalf) : Cal P w K mg base (k + 1) "rooted" ["one"] spRooted := by
  have nd := sc_rooted.nd
  refine F.cal X G sc_rooted (bnd1 fun _ _ _ _ _ _ _ => rfl) (fun vs H Q E h => ?_) (fun f cdv A outer s H vs Q E hr h => ?_)
  · obtain ⟨p, a, b, c, d, h, rfl, _⟩ := h; rfl
  obtain ⟨p, a, b, c, d, h, rfl, hp, h0, q⟩ := h
  have S : SqT K H p [.int a, .int b, .int c, .int d, .int h] := SqT.of hp
  refine ⟨_, (@pss_one _ _ _ (ps_ret (pe_cal c_halved_out hr rfl (pa_cons (pe_op op_sub (pe_ix ix_tup (pv 0) pe_int (fun _ _ => rfl)) (pe_ix ix_tup (pv 0) pe_int (fun _ _ => rfl))) (pa_cons (pe_op op_add (pe_ix ix_tup (pv 0) pe_int (fun _ _ => rfl)) (pe_ix ix_tup (pv 0) pe_int (fun _ _ => rfl))) (pa_cons (pe_op op_add (pe_ix ix_tup (pv 0) pe_int (fun _ _ => rfl)) (pe_ix ix_tup (pv 0) pe_int (fun _ _ => rfl))) (pa_cons (pe_op op_sub (pe_ix ix_tup (pv 0) pe_int (fun _ _ => rfl)) (pe_ix ix_tup (pv 0) pe_int (fun _ _ => rfl))) (pa_cons (pe_op op_add (pe_ix ix_tup (pv 0) pe_int (fun _ _ => rfl)) pe_int) pa_nil)))))))), ?_⟩
  try dsimp only [cxK]
  refine ⟨_, rfl, p, _, _, _, rfl, rfl, S, rfl, _, rfl, p, _, _, _, rfl, rfl, S, rfl, _, _, rfl, rfl, _, rfl, p, _, _, _, rfl, rfl, S, rfl, _, rfl, p, _, _, _, rfl, rfl, S, rfl, _, _, rfl, rfl,
    _, rfl, p, _, _, _, rfl, rfl, S, rfl, _, rfl, p, _, _, _, rfl, rfl, S, rfl, _, _, rfl, rfl, _, rfl, p, _, _, _, rfl, rfl, S, rfl, _, rfl, p, _, _, _, rfl, rfl, S, rfl, _, _, rfl, rfl, _, rfl, p, _, _, _, rfl, rfl, S, rfl, _, _, rfl, rfl, ?_⟩
  exact ⟨_, _, _, _, _, rfl, (by show 0 ≤ h + 1; omega), fun r H' x y z u g s1 e1 r1 => q r H' x y z u g s1 e1 r1⟩
theorem sc_spun : FnScope ["one", "k", "turning", "step"] ["one", "k"] (defScope (top 19)) := ⟨rfl, rfl, rfl, by decide +kernel, rfl, by decide +kernel, by decide +kernel⟩
theorem ok_spun (F : FunAt K "spun" (top 19) .none) (X : K.In h) (G : h.Ns mainGlobals mg) (B : Bs mg) (c_spun_once : Cal P w K mg base k "spun_once" ["one"] (spOnceK K)) : Cal P w K mg base (k + 1) "spun" ["one", "k"] (spSpunK K) := by
  have nd := sc_spun.nd
  refine F.cal X G sc_spun (bnd2 fun _ _ _ _ _ _ _ _ => rfl) (fun vs H Q E h => ?_) (fun f cdv A outer s H vs Q E hr h => ?_)
  · obtain ⟨p, a, b, c, d, h, k, rfl, _⟩ := h; rfl
  obtain ⟨p, a, b, c, d, h, j, rfl, hp, q⟩ := h
  have S : SqT K H p [.int a, .int b, .int c, .int d, .int h] := hp
  refine ⟨_, (@pss_cons _ _ _ _ _ (@ps_set _ _ 2 _ _ _ _ nd rfl (Or.inl rfl) (pv 0) rfl (.inl rfl))
    (@pss_cons _ _ _ _ _ (ps_for PassesOwn.never rfl (pi_range1 rfl B.range (pa_cons (pe_op op_mod (pv 1) pe_int) pa_nil)) (pg_name (i := 3) nd rfl (Or.inl rfl))
      (@pss_one _ _ _ (@ps_set _ _ 2 _ _ _ _ nd rfl (Or.inl rfl) (pe_cal c_spun_once hr rfl (pa_cons (pv 2) pa_nil)) rfl (.inl rfl))))
    (@pss_one _ _ _ (ps_ret (pv 2))))), ?_⟩
  try dsimp only [cxK]
  have j0 := Int.emod_nonneg j (show (8 : Int) ≠ 0 by decide)
  have j1 := Int.emod_lt_of_pos j (show (0 : Int) < 8 by decide)
  refine ⟨_, rfl, _, rfl, _, _, rfl, rfl, (by show (0 : Int) < 8; decide), _, rfl, (by omega), (by omega), for_range (n := (j % 8).toNat) (fun i σ H' => Same H H' ∧ ∃ t v, σ = [some (.ref p), some (.int j), some (.ref t), v] ∧ At5 K H' t (rot i (a, b, c, d), h)) ⟨Same.refl _, p, none, rfl, hp⟩ ?_ ?_⟩
  · rintro i σ H2 hi ⟨s2, t, v, rfl, ht⟩
    refine ⟨_, rfl, t, _, _, _, _, _, rfl, ht, fun r H' s3 e3 => ?_⟩
    exact ⟨s2.trans s3, r, _, rfl, At5.of e3⟩
  · rintro σ H2 ⟨s2, t, v, rfl, ht⟩
    exact ⟨_, rfl, q t H2 s2 ht⟩
end
end K36

set_option maxHeartbeats 4000000
namespace K36
open PySem PySem.Spec PyProof.Rows L2 Am Pc Ba
structure Sum (a b c d h a' b' c' d' h' x y z u g : Int) : Prop where
  amt : Amt x y z u g
  same : Same4 (a * p2 h' + a' * p2 h) (b * p2 h' + b' * p2 h) (c * p2 h' + c' * p2 h) (d * p2 h' + d' * p2 h) (h + h') x y z u g
  le : g ≤ max h h'
theorem sum_eq {a a' h h' m : Int} (h0 : 0 ≤ h) (h0' : 0 ≤ h') (hm : h ≤ m) (hm' : h' ≤ m) : Eq2 (a * p2 h' + a' * p2 h) (h + h') (a * 2 ^ (m - h).toNat + a' * 2 ^ (m - h').toNat) m := by
  unfold Eq2
  rw [p2_add h0 h0']
  show _ = (a * p2 (m - h) + a' * p2 (m - h')) * (p2 h * p2 h')
  have e1 := p2_sub h0 hm
  have e2 := p2_sub h0' hm'
  have l1 : (a * p2 h' + a' * p2 h) * p2 m = a * p2 h' * p2 m + a' * p2 h * p2 m := Int.add_mul ..
  rw [l1, show a * p2 h' * p2 m = a * p2 h' * (p2 (m - h) * p2 h) by rw [← e1], show a' * p2 h * p2 m = a' * p2 h * (p2 (m - h') * p2 h') by rw [← e2]]
  grind
theorem sz_pow (n : Nat) : Sz (n + 1) ((2 : Int) ^ n) := by
  unfold Sz
  rw [Int.natAbs_pow]
  exact Nat.pow_lt_pow_right (by decide) (Nat.lt_succ_self n)
theorem sum_sz {a a' h h' m : Int} {n N : Nat} (hm : m - h ≤ h' ∧ m - h' ≤ h) (z : Sz n a) (z' : Sz n a') (hN : n + h.toNat + h'.toNat + 2 ≤ N) : Sz N (a * 2 ^ (m - h).toNat + a' * 2 ^ (m - h').toNat) := by
  refine ((z.mul (sz_pow (m - h).toNat)).add (z'.mul (sz_pow (m - h').toNat))).mono ?_
  omega
structure In2 (K : PySem.W.Frag) (n : Nat) (vs : List V) (H : Hp) (p q : Addr) (a b c d h a' b' c' d' h' : Int) : Prop where
  vs : vs = [.ref p, .ref q]
  one : At5 K H p ((a, b, c, d), h)
  other : At5 K H q ((a', b', c', d'), h')
  h0 : 0 ≤ h
  h0' : 0 ≤ h'
  hh : h + h' ≤ 40000
  hn : n ≤ 500000
  z : Sz4 n a b c d
  z' : Sz4 n a' b' c' d'
def spPlusK (K : PySem.W.Frag) : Sp := fun vs H Q _ => ∃ n p q a b c d h a' b' c' d' h', In2 K n vs H p q a b c d h a' b' c' d' h' ∧ ∀ (r : Addr) (H' : Hp) (x y z u g : Int), Same H H' → H' r = some (T5 x y z u g) → Sum a b c d h a' b' c' d' h' x y z u g → Sz4 (n + h.toNat + h'.toNat + 2) x y z u → Q (.ref r) H'
def spMinusK (K : PySem.W.Frag) : Sp := fun vs H Q _ => ∃ n p q a b c d h a' b' c' d' h', In2 K n vs H p q a b c d h a' b' c' d' h' ∧ ∀ (r : Addr) (H' : Hp) (x y z u g : Int), Same H H' → H' r = some (T5 x y z u g) → Sum a b c d h (-a') (-b') (-c') (-d') h' x y z u g → Sz4 (n + h.toNat + h'.toNat + 2) x y z u → Q (.ref r) H'
section
variable {P : Program} {w : World} {K : PySem.W.Frag} {mg : Str → Option Value} {base : Heap} {k : Nat} {h : Heap}
theorem sc_plus : FnScope ["one", "other", "h", "up", "other_up", "sums"] ["one", "other"] (defScope (top 17)) := ⟨rfl, rfl, rfl, by decide +kernel, rfl, by decide +kernel, by decide +kernel⟩
theorem ok_plus (F : FunAt K "plus" (top 17) .none) (X : K.In h) (G : h.Ns mainGlobals mg) (B : Bs mg) (c_halved_out : Cal P w K mg base k "halved_out" ["a", "b", "c", "d", "h"] spHalf) : Cal P w K mg base (k + 1) "plus" ["one", "other"] (spPlusK K) := by
  have nd := sc_plus.nd
  refine F.cal X G sc_plus (bnd2 fun _ _ _ _ _ _ _ _ => rfl) (fun vs H Q E h => ?_) (fun f cdv A outer s H vs Q E hr h => ?_)
  · obtain ⟨n, p, q, a, b, c, d, h, a', b', c', d', h', I, _⟩ := h; rw [I.vs]; rfl
  obtain ⟨n, p, q, a, b, c, d, h, a', b', c', d', h', ⟨rfl, e1, e2, h0, h0', hh, hn, z, z'⟩, kq⟩ := h
  have S : SqT K H p [.int a, .int b, .int c, .int d, .int h] := e1
  have S' : SqT K H q [.int a', .int b', .int c', .int d', .int h'] := e2
  refine ⟨_, (@pss_cons _ _ _ _ _ (@ps_set _ _ 2 _ _ _ _ nd rfl (Or.inl rfl) (pe_callB (call_max2 rfl) rfl B.max boot_max (pa_cons (pe_ix ix_tup (pv 0) pe_int (fun _ _ => rfl)) (pa_cons (pe_ix ix_tup (pv 1) pe_int (fun _ _ => rfl)) pa_nil))) rfl (.inl rfl))
    (@pss_cons _ _ _ _ _ (@ps_set _ _ 3 _ _ _ _ nd rfl (Or.inr rfl) (pe_op op_sub (pv 2) (pe_ix ix_tup (pv 0) pe_int (fun _ _ => rfl))) rfl (.inl rfl))
    (@pss_cons _ _ _ _ _ (@ps_set _ _ 4 _ _ _ _ nd rfl (Or.inr rfl) (pe_op op_sub (pv 2) (pe_ix ix_tup (pv 1) pe_int (fun _ _ => rfl))) rfl (.inl rfl))
    (@pss_cons _ _ _ _ _ (ps_setLc (i := 5) rfl nd rfl rfl (LcOk.of (Nc := ["x", "y", "up", "other_up"]) (mp := [none, none, some 3, some 4]) (by kernel_rfl)) (pi_zip true true rfl B.zip (pa_cons (pe_slice sl_tup (pv 0) po_none (po_some pe_int)) (pa_cons (pe_slice sl_tup (pv 1) po_none (po_some pe_int)) pa_nil))) (fun _ _ _ _ => (pg_pairC rfl (show (["x", "y", "up", "other_up"] : List Str).Nodup by decide +kernel) rfl rfl rfl rfl)) (fun _ _ _ _ => (pe_op op_add (pe_op op_shlS (pv 0) (pv 2)) (pe_op op_shlS (pv 1) (pv 3)))) rfl)
    (@pss_one _ _ _ (ps_ret (pe_cal c_halved_out hr rfl (pa_cons (pe_ix ix_list (pv 5) pe_int (fun _ _ => rfl)) (pa_cons (pe_ix ix_list (pv 5) pe_int (fun _ _ => rfl)) (pa_cons (pe_ix ix_list (pv 5) pe_int (fun _ _ => rfl)) (pa_cons (pe_ix ix_list (pv 5) pe_int (fun _ _ => rfl)) (pa_cons (pv 2) pa_nil)))))))))))), ?_⟩
  try dsimp only [cxK]
  refine ⟨_, rfl, p, _, _, _, rfl, rfl, S, rfl, _, rfl, q, _, _, _, rfl, rfl, S', rfl, _, _, rfl, ?_⟩
  generalize hm : (if h' > h then h' else h) = m
  have m1 : h ≤ m := by rw [← hm]; split <;> omega
  have m2 : h' ≤ m := by rw [← hm]; split <;> omega
  have m3 : m - h ≤ h' ∧ m - h' ≤ h ∧ m ≤ h + h' := by rw [← hm]; split <;> omega
  refine ⟨_, rfl, _, rfl, p, _, _, _, rfl, rfl, S, rfl, _, _, rfl, rfl, ?_⟩
  refine ⟨_, rfl, _, rfl, q, _, _, _, rfl, rfl, S', rfl, _, _, rfl, rfl, ?_⟩
  refine ⟨_, rfl, 4, rfl, p, _, rfl, S, cut54, fun l1 hl1 => ?_⟩
  refine ⟨_, rfl, 4, rfl, q, _, rfl, (same_new hl1 _).tup S', cut54, fun l2 hl2 => ?_⟩
  have s2 : Same H (upd (upd H l1 (.tup ([a, b, c, d].map V.int))) l2 (.tup ([a', b', c', d'].map V.int))) := (same_new hl1 _).trans (same_new hl2 _)
  refine ⟨l1, l2, [a, b, c, d].map V.int, [a', b', c', d'].map V.int, rfl, (same_new hl2 _).tup (SqT.of upd_same), SqT.of upd_same, fun acc hacc => ?_⟩
  refine lc_zipI (K := K) (ns := [a, b, c, d]) (ms := [a', b', c', d']) (fr := [some (.int (m - h)), some (.int (m - h'))]) (fun x y => x * 2 ^ (m - h).toNat + y * 2 ^ (m - h').toNat) rfl (show 4 ≤ sizeLine by decide) ((same_new hl2 _).tup (SqT.of upd_same)) (SqT.of upd_same) hacc
    (fun ha hQ => ⟨_, _, rfl, SqT.of ha, rfl, _, _, rfl, _, _, rfl, rfl, hQ⟩) ?_ ?_
  · intro x y H2 N hx hy kN
    have zx : Sz n x := by
      simp only [List.mem_cons, List.not_mem_nil, or_false] at hx
      rcases hx with rfl | rfl | rfl | rfl
      · exact z.z1
      · exact z.z2
      · exact z.z3
      · exact z.z4
    have zy : Sz n y := by
      simp only [List.mem_cons, List.not_mem_nil, or_false] at hy
      rcases hy with rfl | rfl | rfl | rfl
      · exact z'.z1
      · exact z'.z2
      · exact z'.z3
      · exact z'.z4
    exact ⟨_, rfl, _, rfl, _, _, rfl, rfl, ⟨n, zx, (by omega), (by omega)⟩, _, rfl, _, rfl, _, _, rfl, rfl, ⟨n, zy, (by omega), (by omega)⟩, _, _, rfl, rfl, kN⟩
  intro H2 s3 a3
  have SA : SqL K H2 acc ((List.zipWith (fun x y => x * 2 ^ (m - h).toNat + y * 2 ^ (m - h').toNat) [a, b, c, d] [a', b', c', d']).map V.int) := SqL.of a3
  refine ⟨_, rfl, acc, _, _, _, rfl, rfl, SA, rfl, _, rfl, acc, _, _, _, rfl, rfl, SA, rfl, _, rfl, acc, _, _, _, rfl, rfl, SA, rfl, _, rfl, acc, _, _, _, rfl, rfl, SA, rfl, _, rfl, _, _, _, _, _, rfl, (by show 0 ≤ m; omega), fun r H' x y v u g s4 e4 r4 => ?_⟩
  have hN : n + h.toNat + h'.toNat + 2 ≤ n + h.toNat + h'.toNat + 2 := Nat.le_refl _
  have m4 : m - h ≤ h' ∧ m - h' ≤ h := ⟨m3.1, m3.2.1⟩
  refine kq r H' x y v u g (s2.trans (s3.trans s4)) e4 ⟨r4.amt, Same4.trans ⟨sum_eq h0 h0' m1 m2, sum_eq h0 h0' m1 m2, sum_eq h0 h0' m1 m2, sum_eq h0 h0' m1 m2⟩ r4.same, by have := r4.le; rw [← hm] at this; split at this <;> omega⟩ (r4.sz ⟨?_, ?_, ?_, ?_⟩)
  · exact sum_sz m4 z.z1 z'.z1 hN
  · exact sum_sz m4 z.z2 z'.z2 hN
  · exact sum_sz m4 z.z3 z'.z3 hN
  · exact sum_sz m4 z.z4 z'.z4 hN
theorem sc_minus : FnScope ["one", "other"] ["one", "other"] (defScope (top 18)) := ⟨rfl, rfl, rfl, by decide +kernel, rfl, by decide +kernel, by decide +kernel⟩
theorem ok_minus (F : FunAt K "minus" (top 18) .none) (X : K.In h) (G : h.Ns mainGlobals mg) (c_plus : Cal P w K mg base k "plus" ["one", "other"] (spPlusK K)) (c_spun : Cal P w K mg base k "spun" ["one", "k"] (spSpunK K)) : Cal P w K mg base (k + 1) "minus" ["one", "other"] (spMinusK K) := by
  have nd := sc_minus.nd
  refine F.cal X G sc_minus (bnd2 fun _ _ _ _ _ _ _ _ => rfl) (fun vs H Q E h => ?_) (fun f cdv A outer s H vs Q E hr h => ?_)
  · obtain ⟨n, p, q, a, b, c, d, h, a', b', c', d', h', I, _⟩ := h; rw [I.vs]; rfl
  obtain ⟨n, p, q, a, b, c, d, h, a', b', c', d', h', ⟨rfl, e1, e2, h0, h0', hh, hn, z, z'⟩, kq⟩ := h
  refine ⟨_, (@pss_one _ _ _ (ps_ret (pe_cal c_plus hr rfl (pa_cons (pv 0) (pa_cons (pe_cal c_spun hr rfl (pa_cons (pv 1) (pa_cons pe_int pa_nil))) pa_nil))))), ?_⟩
  try dsimp only [cxK]
  refine ⟨_, rfl, _, rfl, q, _, _, _, _, _, _, rfl, e2, fun r H2 s2 er => ?_⟩
  have er' : At5 K H2 r ((-a', -b', -c', -d'), h') := er
  exact ⟨n, p, r, a, b, c, d, h, -a', -b', -c', -d', h', ⟨rfl, e1.same s2, er', h0, h0', hh, hn, z, ⟨z'.z1.neg, z'.z2.neg, z'.z3.neg, z'.z4.neg⟩⟩, fun r' H3 x y v u g s3 => kq r' H3 x y v u g (s2.trans s3)⟩
end
end K36

set_option maxHeartbeats 4000000
/-! a dict of texts and ints that the program keeps under a global name -/
namespace L2
open PySem PySem.Spec PyProof.Rows
def TEnt (P : Params) (e : DictEntry) (p : Str × Int) : Prop := ∃ t u, e = ⟨PyData.keyHash P p.1, .str p.1 t, .int p.2 u⟩
structure KDic (K : PySem.W.Frag) (P : Params) (a : Addr) (kvs : List (Str × Int)) : Prop where
  ex : ∃ o es ep, K.lookup a = some o ∧ o.ExactDict ∧ o.data = .dict es ep ∧ Paired (TEnt P) es.toList kvs
  nd : (kvs.map (·.1)).Nodup
  ns : (a == sysModules) = false
def txt (p : Str × Int) : Key × V := (Sum.inr p.1, .int p.2)
theorem KDic.at {K : PySem.W.Frag} {prog : Program} {w : World} {a : Addr} {kvs : List (Str × Int)} {h : Heap} (D : KDic K w.params a kvs) (X : K.In h) : ∃ vs, KV (kvs.map txt) vs ∧ h.DictOf (mixKind prog w) a vs := by
  obtain ⟨o, es, ep, hl, hx, hd, hp⟩ := D.ex
  have key : ∀ {l : List DictEntry} {kvs : List (Str × Int)}, Paired (TEnt w.params) l kvs → ∃ vs : List (Key × Value), KV (kvs.map txt) vs ∧ Pairs (mixKind prog w) l vs := by
    intro l kvs h
    induction h with
    | nil => exact ⟨[], .nil, .nil⟩
    | @cons e p l kvs he hr ih =>
      obtain ⟨vs, a1, a2⟩ := ih
      obtain ⟨t, u, rfl⟩ := he
      exact ⟨(Sum.inr p.1, .int p.2 u) :: vs, .cons ⟨rfl, u, rfl⟩ a1, .cons (keyIs_str p.1 t) rfl a2⟩
  have all : ∀ {l : List DictEntry} {kvs : List (Str × Int)}, Paired (TEnt w.params) l kvs → ∀ e ∈ l, ∃ p, TEnt w.params e p := by
    intro l kvs h
    induction h with
    | nil => intro e he; cases he
    | @cons e p l kvs he hr ih =>
      intro e' h'
      rcases List.mem_cons.mp h' with rfl | h'
      · exact ⟨p, he⟩
      · exact ih e' h'
  obtain ⟨vs, a1, a2⟩ := key hp
  refine ⟨vs, a1, o, es, ep, X _ _ hl, hx, hd, ?_, a2, ?_⟩
  · intro e he
    obtain ⟨p, t, u, rfl⟩ := all hp e (Array.mem_toList_iff.mpr he)
    exact ⟨Sum.inr p.1, keyIs_str p.1 t, rfl⟩
  · rw [← a1.keys, List.map_map]
    have e : kvs.map ((fun kv => kv.1) ∘ txt) = (kvs.map (·.1)).map (Sum.inr : Str → Key) := by rw [List.map_map]; rfl
    rw [e]
    exact List.pairwise_map.mpr (D.nd.imp fun h z => h (Sum.inr.inj z))
def numAt (kvs : List (Str × Int)) (x : Str) : Option V := valV (kvs.map txt) (Sum.inr x)
def tKNotIn (kvs : List (Str × Int)) (ty : TE) : TE := fun σ H Q => ty σ H fun y H1 => ∃ x, y = .str x ∧ Q (.bl (!(numAt kvs x).isSome)) H1
def tKGet (kvs : List (Str × Int)) (ty : TE) : TE := fun σ H Q => ty σ H fun y H1 => ∃ x v, y = .str x ∧ numAt kvs x = some v ∧ Q v H1
section
variable {X : Cx} {o i : Expr} {pos : Pos} {ty : TE} {aN : Addr} {kvs : List (Str × Int)}
theorem pc_knotin (D : KDic X.K X.w.params aN kvs) (hi : PE X i ty) (ho : PE X o (tC (.ref aN))) : PC X .NotIn i o (tKNotIn kvs ty) := by
  intro pins s σ H Q I h
  refine thn (hi pins s σ H _ I h) fun iv s1 ⟨y, H1, I1, ry, x, ey, q1⟩ => thn (ho pins s1 σ H1 (fun v H2 => v = .ref aN ∧ H2 = H1) I1 ⟨rfl, rfl⟩) fun u s2 ⟨v, H2, I2, rv, ev, eh⟩ => ?_
  subst ev eh ey
  cases rv
  obtain ⟨vs, rel, dd⟩ := D.at (prog := X.prog) (w := X.w) I2.kIn
  refine wpAny_notIn_of (kV_is (k := Sum.inr x) ry) D.ns dd.mapOf ?_
  rw [← (rel.val (Sum.inr x)).isSome_eq]
  exact ⟨.bl _, H2, I2.tok _, rfl, q1⟩
theorem pe_kget (D : KDic X.K X.w.params aN kvs) (ho : PE X o (tC (.ref aN))) (hi : PE X i ty) (hs : NoSl i) : PE X (.Subscript o i pos) (tKGet kvs ty) := by
  intro pins s σ H Q I h
  refine subD_of PySem.F.slot_dict_getitem.lookup hs (thn (ho pins s σ H (fun v H2 => v = .ref aN ∧ H2 = H) I ⟨rfl, rfl⟩) fun u s1 ⟨v, H1, I1, rv, ev, eh⟩ => ?_)
  subst ev eh
  cases rv
  refine thn (hi pins s1 σ H1 _ I1 h) fun iv s2 ⟨y, H2, I2, ry, x, w', ey, g, q2⟩ => ?_
  subst ey
  obtain ⟨vs, rel, dd⟩ := D.at (prog := X.prog) (w := X.w) I2.kIn
  obtain ⟨u, hw, ru⟩ := RelO.some_of (v := w') (o := valueAt vs (Sum.inr x)) (by rw [← g]; exact rel.val (Sum.inr x))
  exact ⟨dd.typeIs, wpAny_getItem_of (kV_is (k := Sum.inr x) ry) dd.mapOf hw ⟨w', H2, I2.tok _, ru, q2⟩⟩
end
end L2

set_option maxHeartbeats 4000000
/-! set(a tuple of ints), and its len -/
namespace L2
open PySem PySem.Spec PyProof.Rows
abbrev unlike (ns : List Int) : Nat := (firstMet (fun i => ns.getD i 0) ns.length).length
abbrev fresh0 (led : Bool) : Obj := { cls := .type "set", dict := none, data := .set #[] 0 (.fresh 0 0 led) }
def SetEnd (prog : Program) (w : World) (s : Shared) (ns : List Int) (S : Int → Bool) (s' : Shared) : Prop :=
  ∃ h' tk, s' = { s with heap := h', toks := tk } ∧ h'.SetOf (intKind prog w) s.heap.objs.size S (unlike ns) ∧ ∀ b o, s.heap.get? b = some o → h'.get? b = some o
section
variable {prog : Program} {w : World} {A : Around} {E : Value → Shared → Prop} {s : Shared} {p : Addr} {its : Array Value} {ns : List Int}
theorem fill_tup (hh : A.handled = none) (ht : s.heap.IsTuple p its) (hi : IntsAre its.toList ns) (hb : ns.length + 1 < scanBound) (led : Bool) {R : Result → Shared → Prop}
    (h : ∀ s', SetEnd prog w s ns (fun k => (firstMet (fun i => ns.getD i 0) ns.length).any (· == k)) s' → R (.ok (.ret .none)) s') :
    codeAny (model prog w) A (.builtin "set.update.loop" ⟨[.ref s.heap.objs.size, .ref (s.heap.push (fresh0 led)).objs.size], []⟩) R { s with heap := (s.heap.push (fresh0 led)).push { cls := .type "tuple_iterator", data := .fields #[.ref p, .int 0 0] } } := by
  obtain ⟨o, ho, hc, n, hd⟩ := id ht
  have lt : p < s.heap.objs.size := Heap.lt_size ho
  have e1 : (s.heap.push (fresh0 led)).objs.size = s.heap.objs.size + 1 := Heap.size_push ..
  have hz : its.size = ns.length := by rw [← Array.length_toList]; exact hi.length
  have W := (Walks.tuple (prog := prog) (w := w) (A := A.in1) (by simp [hh]) (s.heap.push (fresh0 led)).objs.size p (by rw [e1]; exact Nat.ne_of_lt (Nat.lt_succ_of_lt lt)) its).toS
  have t1 : (s.heap.push (fresh0 led)).IsTuple p its := ⟨o, Heap.get?_push_of_some _ ho, hc, n, hd⟩
  refine codeAny_set_update_loopS W s.heap.objs.size (by rw [e1]; simp only [List.mem_cons, List.not_mem_nil, or_false, not_or]; exact ⟨Nat.ne_of_lt (Nat.lt_succ_self _), Nat.ne_of_gt lt⟩) (fun i => ns.getD i 0) (fun i v q => hi.int_at i v (by rw [Array.getElem?_toList]; exact q)) (by rw [hz]; exact hb) its.size 0 _ rfl (Nat.zero_le _)
    ⟨⟨_, Heap.get?_push_size _ rfl, rfl, rfl⟩, t1.push _⟩ ?_ ?_
  · have g : ((s.heap.push (fresh0 led)).push { cls := .type "tuple_iterator", data := .fields #[.ref p, .int 0 0] }).get? s.heap.objs.size = some (fresh0 led) := Heap.get?_push_of_some _ (Heap.get?_push_size _ rfl)
    exact SetOf_congr ((setObjOf_fresh (knd := intKind prog w) led).setOf g (by unfold scanBound; omega)) (fun _ => rfl) rfl
  · intro s' hm hS
    rw [hz] at hS
    obtain ⟨h', g', d', tk', os'⟩ := s'
    obtain rfl : g' = s.gens := hm.gens
    obtain rfl : d' = s.drawn := hm.drawn
    obtain rfl : os' = s.os := hm.os
    refine h _ ⟨h', tk', rfl, hS, fun b o e => ?_⟩
    have lb := Heap.lt_size e
    exact hm.heap b o (by rw [e1]; simp only [List.mem_cons, List.not_mem_nil, or_false, not_or]; exact ⟨Nat.ne_of_lt lb, Nat.ne_of_lt (Nat.lt_succ_of_lt lb)⟩) (Heap.get?_push_of_some _ (Heap.get?_push_of_some _ e))
theorem init_tup (hh : A.handled = none) (ht : s.heap.IsTuple p its) (hi : IntsAre its.toList ns) (hb : ns.length + 1 < scanBound) (led : Bool) {R : Value → Shared → Prop}
    (h : ∀ s', SetEnd prog w s ns (fun k => (firstMet (fun i => ns.getD i 0) ns.length).any (· == k)) s' → R .none s') :
    codeAny (model prog w) A (.call (.builtin "set.__init__") ⟨[.ref s.heap.objs.size, .ref p], []⟩) (wants R E) { s with heap := s.heap.push (fresh0 led) } := by
  have ty : Shared.TypeIs { s with heap := s.heap.push (fresh0 led) } (.ref s.heap.objs.size) "set" := ⟨_, Heap.get?_push_size _ rfl, rfl⟩
  obtain ⟨o, ho, hc, n, hd⟩ := id ht
  obtain ⟨ocls, odict, odata, oslots⟩ := o
  simp only at hc hd
  subst hc hd
  have ho1 : (s.heap.push (fresh0 led)).get? p = some { cls := .type "tuple", dict := odict, data := .seq its n, slots := oslots } := Heap.get?_push_of_some _ ho
  have t1 : (s.heap.push (fresh0 led)).IsTuple p its := ⟨_, ho1, rfl, n, rfl⟩
  have n1 := F.sub_tuple_set
  have n2 := F.sub_tuple_frozenset
  have n3 : (Value.type "tuple" == Value.type "dict") = false := by decide
  refine codeAny_call_builtin F.called_set.init.plain F.entry_set_init (check_set_init_1 ty ?_)
  unfold Builtin.«set.__init__» noKeywords Builtin.Frozenset.updateFrom
  generalize hP : pyIter = PI
  wp_walk
  subst hP
  refine wpAny_pyIter_tuple t1 (wpAny_bind (wpAny_runValue (fill_tup (by simp [hh]) ht hi hb led fun s' e => ?_)))
  exact wpAny_pure (wpAny_pure (h _ e))
theorem set_tup (hh : A.handled = none) (ht : s.heap.IsTuple p its) (hi : IntsAre its.toList ns) (hb : ns.length + 1 < scanBound) {Q : Value → Shared → Prop}
    (h : ∀ s', SetEnd prog w s ns (fun k => (firstMet (fun i => ns.getD i 0) ns.length).any (· == k)) s' → Q (.ref s.heap.objs.size) s') : wpAny (model prog w) A (call (.type "set") [.ref p]) Q E s := by
  obtain ⟨c, tl, hmro⟩ := F.called_set.mro
  have m1 := F.called_set.made
  have m2 := F.called_set.sub
  have m3 := F.called_set.notType
  have m4 := F.called_set.canCreate
  have m5 := F.typeCall_set_1 (.ref p)
  refine wpAny_call (codeAny_of_tree ?_)
  show wpAny _ _ (callAny (.type "set") _) _ _ _
  refine wpAny_pure ⟨Code.quiet_builtin _ (by decide +kernel), codeAny_builtin F.entry_type_call ?_⟩
  rw [Around.under_plain (weight_type_call_type "set" [.ref p] []) rfl]
  repeat any_goals first | assumption | wp_step
  refine codeAny_mono (code_set_new_1 (.ref p) (E := E) (Q₁ := fun ob s₁ => ∃ led : Bool, ob = .ref s.heap.objs.size ∧ s₁ = { s with heap := s.heap.push (fresh0 led) }) fun led => ⟨led, rfl, rfl⟩) fun r s₁ hr => ?_
  rcases r with e | fl
  · exact hr
  cases fl with
  | ret ob =>
    obtain ⟨led, rfl, rfl⟩ := hr
    have ty : Shared.TypeIs { s with heap := s.heap.push (fresh0 led) } (.ref s.heap.objs.size) "set" := ⟨_, Heap.get?_push_size _ rfl, rfl⟩
    have i1 := F.called_set.init.lookup
    have i2 := F.called_set.init.bind (.ref s.heap.objs.size)
    repeat any_goals first | assumption | wp_step
    refine codeAny_mono (init_tup (E := E) (R := fun r s' => r = .none ∧ SetEnd prog w s ns (fun k => (firstMet (fun i => ns.getD i 0) ns.length).any (· == k)) s') (by simp [hh]) ht hi hb led fun s' e => ⟨rfl, e⟩) fun r₂ s₂ hr₂ => ?_
    rcases r₂ with e | fl₂
    · exact hr₂
    cases fl₂ with
    | ret r =>
      obtain ⟨rfl, e⟩ := hr₂
      repeat any_goals first | assumption | wp_step
      exact h _ e
    | next => exact hr₂.elim
    | brk => exact hr₂.elim
    | cont => exact hr₂.elim
  | next => exact hr.elim
  | brk => exact hr.elim
  | cont => exact hr.elim
end
theorem ints_vals : ∀ {ns : List Int} {us : List Value}, Vals (ns.map V.int) us → IntsAre us ns
  | [], _, .nil => .nil
  | n :: ns, _, .cons r rs => by
    obtain ⟨t, rfl⟩ := r
    exact .cons n t (ints_vals rs)
section
variable {X : Cx}
theorem call_setT (hc : X.calm = true) : CallR X (.type "set") (fun xs H Q => ∃ (p : Addr) (ns : List Int), xs = [.ref p] ∧ SqT X.K H p (ns.map V.int) ∧ ns.length < 64 ∧ ∀ (l : Addr) (S : Int → Bool), H l = none → Q (.ref l) (upd H l (.set S (unlike ns)))) := by
  intro pins s σ H xs us Q I r h
  obtain ⟨p, ns, rfl, hS, h64, q⟩ := h
  obtain ⟨u, rfl, rx⟩ := vals1 r
  cases rx
  obtain ⟨its, rv, ht, _⟩ := I.tuple hS
  obtain ⟨o, ho, hcl, n, hd⟩ := ht
  refine set_tup (I.ok.hd hc) ⟨o, ho, hcl, n, hd⟩ (ns := ns) (ints_vals (by simpa using rv)) (by unfold scanBound; omega) fun s' ⟨h', tk, e, hs, hk⟩ => ?_
  subst e
  exact ⟨.ref s.heap.objs.size, _, I.laid (o := .set _ (unlike ns)) (t' := tk) hk (Nat.le_refl _) hs, rfl, q _ _ (I.hok.fresh (Nat.le_refl _))⟩
theorem call_lenS : CallR X (.builtin "len") (fun xs H Q => ∃ (p : Addr) (S : Int → Bool) (n : Nat), xs = [.ref p] ∧ H p = some (.set S n) ∧ n < 64 ∧ Q (.int n) H) := by
  intro pins s σ H xs us Q I r h
  obtain ⟨p, S, n, rfl, hp, h64, q⟩ := h
  obtain ⟨u, rfl, rx⟩ := vals1 r
  cases rx
  have hs : s.heap.SetOf (intKind X.prog X.w) p S n := I.hok p _ hp
  obtain ⟨o, ho, hso⟩ := hs.objOf
  obtain ⟨hex, es, ep, t, hd, _, _, hn, hf⟩ := hso
  subst hn
  exact call_len_set ho hex hd hf (by omega) ⟨.int es.size, H, (I.tok _).tok _, ⟨_, rfl⟩, q⟩
end
end L2

set_option maxHeartbeats 4000000
/-! slices of lists with a step -/
namespace L2
open PySem PySem.Spec PyProof.Rows
section
variable {X : Cx} {e st : Expr} {lo hi : Option Expr} {te : TE} {tl th ts : TO} {p2 pos : Pos}
end
end L2

set_option maxHeartbeats 4000000
namespace HT
open PySem PySem.Spec PyProof.Rows
section
variable {prog : Program} {w : World} {A : Around} {E : Value → Shared → Prop} {s : Shared}
theorem getItem_tuple_all {t sl : Addr} {items : Array Value} {vl vu : Value} {lo hi : Option Int} {Q : Value → Shared → Prop} (ht : IsTup s.heap t items) (hs : s.heap.IsSliceOf sl vl vu .none) (pl : IsPart vl lo) (pu : IsPart vu hi)
    (h1 : sIx items.size 0 lo = 0) (h2 : sIx items.size items.size hi = items.size) (h : Q (.ref t) s) : wpAny (model prog w) A (getItem (.ref t) (.ref sl)) Q E s := by
  obtain ⟨os, hos, hcs, hds⟩ := id hs
  have ty : s.TypeIs (.ref sl) "slice" := ⟨os, hos, hcs⟩
  unfold getItem
  try with_reducible refine wpAny_holding ?_
  first | refine wpAny_bind (wpAny_pure ?_) | skip
  refine wpAny_bind (wpAny_sequenceKey ht.typeIs (by decide) (wpAny_bind (wpAny_callSpecial?_slot (name := Str.ofString "__getitem__") ht.typeIs PyProof.Rows.slot_tuple_getitem (wpAny_call_entry PyProof.Rows.slot_tuple_getitem ht.typeIs entry_tuple_getitem ?_ (args_tuple_getitem _ _)))))
  show wpAny _ _ (Builtin.Tuple.tupleItemsOf (.ref t) >>= _) _ _ s; refine wpAny_bind (tupleItemsOf_ ht (wpAny_bind (wpAny_typeOf ty ?_))); rw [if_pos (by decide)]
  refine wpAny_bind (sliceApplied_gen hs pl pu ?_)
  show wpAny _ _ (if (((sIx items.size 0 lo : Nat) : Int) == 0 && (1 : Int) == 1 && (sIx items.size items.size hi - sIx items.size 0 lo) == items.size) = true then _ else _) _ _ s; rw [if_pos (by rw [h1, h2]; simp)]
  refine wpAny_bind ?_
  unfold Builtin.Tuple.tupleIsExact
  refine wpAny_bind (wpAny_typeOf ht.typeIs (wpAny_pure ?_))
  rw [if_pos (by decide)]
  exact wpAny_bind (wpAny_rule (wpAny_pure ⟨_, rfl, wpAny_pure h⟩))
end
end HT
namespace L2
open PySem PySem.Spec PyProof.Rows
section
variable {X : Cx}
def rSlA (K : PySem.W.Frag) : V → Option Int → Option Int → Hp → VK → Prop := fun x lo hi H Q => ∃ a xs, x = .ref a ∧ SqT K H a xs ∧
  ((HT.sIx xs.length 0 lo = 0 ∧ HT.sIx xs.length xs.length hi = xs.length) ∧ Q (.ref a) H ∨ ¬ (HT.sIx xs.length 0 lo = 0 ∧ HT.sIx xs.length xs.length hi = xs.length) ∧ ∀ p, H p = none → Q (.ref p) (upd H p (.tup (cutV xs lo hi))))
theorem sl_tupA : SlR X (rSlA X.K) := by
  intro pins s σ H x v vl vu lo hi sl Q I rx hs pl pu h
  obtain ⟨a, xs, rfl, hx, ⟨hw, q⟩ | ⟨hw, q⟩⟩ := h
  · cases rx
    obtain ⟨its, r, ht, hz⟩ := I.tuple hx
    have hlen := r.length
    refine ⟨"tuple", _, slot_tuple_getitem.lookup, ht.typeIs, HT.getItem_tuple_all ht hs pl pu (by rw [List.size_toArray, ← hlen]; exact hw.1) (by rw [List.size_toArray, ← hlen]; exact hw.2) ⟨.ref a, H, I, rfl, q⟩⟩
  · exact sl_tup pins s σ H _ v vl vu lo hi sl Q I rx hs pl pu ⟨a, xs, rfl, hx, hw, q⟩
end
end L2

set_option maxHeartbeats 4000000
/-! list comprehensions of one clause with one test -/
namespace L2
open PySem PySem.Spec PyProof.Rows
theorem tests_one {prog : Program} {w : World} {A : Around} {env : Env} {c : Expr} {s : Shared} {Q : Bool → Shared → Prop} (h : wpAny (model prog w) A (isTrue c env (eval c env)) Q Calm s) :
    wpAny (model prog w) A (forIn [c] true fun c r => if r = true then do let ok ← isTrue c env (eval c env); pure (ForInStep.yield ok) else pure (ForInStep.yield r)) Q Calm s := wpAny_tests_one h
theorem compLoop_calmF {prog : Program} {w : World} {A : Around} {R : Result → Shared → Prop} {s : Shared} {e t i c : Expr} {sc : Scope} {pos : Pos} {it acc : Value} {env : Env} (J : Nat → Shared → Prop)
    (turn : ∀ n s, J n s → wpAny (model prog w) A (pyNext it) (fun r s1 => (r = none → R (.ok .next) s1) ∧ ∀ v, r = some v →
      wpAny (model prog w) A (letOwnedTupleGo t it v) (fun _ s2 => wpAny (model prog w) A (assign t env v) (fun _ s3 => wpAny (model prog w) A (isTrue c env (eval c env)) (fun ok s3' => if ok = true then wpAny (model prog w) A (eval e env) (fun x s4 =>
        wpAny (model prog w) A (call (.builtin "list.append") [acc, x]) (fun _ s5 => ∃ m, m < n ∧ J m s5) Calm s4) Calm s3' else ∃ m, m < n ∧ J m s3') Calm s3) Calm s2) Calm s1) Calm s)
    (n : Nat) (h : J n s) : codeAny (model prog w) A (.compLoop (.ListComp e [⟨t, i, [c], 0⟩] sc pos) 0 it acc env) R s := by
  have eq := compTurn_list e t i [c] sc pos it acc env
  refine codeAny_loop rfl J (fun n s j => wpAny_noted (m := compTurn (.ListComp e [⟨t, i, [c], 0⟩] sc pos) 0 it acc env) ?_) n h
  rw [eq]
  refine wpAny_bind (wpAny_standAt (thenC (turn n s j) fun r s1 q => ?_))
  match r, q with
  | none, q => exact wpAny_pure (q.1 rfl)
  | some v, q =>
    refine thenC (q.2 v rfl) fun _ s2 q2 => thenC q2 fun _ s3 q3 => thenC (tests_one q3) fun ok s4 q4 => ?_
    cases ok with
    | false => exact wpAny_pure ⟨rfl, q4⟩
    | true => exact wpAny_bind (thenC q4 fun x s5 q5 => thenC q5 fun _ s6 q6 => wpAny_pure (wpAny_pure ⟨rfl, q6⟩))
def LcWF (J : It) (g : TG) (tc : TT) (te : TE) (σ : St) (H : Hp) (acc : Addr) (Q : VK) : Prop := ∃ W : Nat → Nat → List V → St → Hp → Prop, (∃ m, W 0 m [] σ (upd H acc (.lst []))) ∧
  ∀ i m ys σ2 H2, W i m ys σ2 H2 → (J.stop i H2 ∧ Q (.ref acc) H2) ∨ (J.go i H2 ∧ ∀ x H3, J.yld i H2 x H3 → g x σ2 H3 fun σ4 H4 => tc σ4 H4 fun b H5 =>
    (b = true → te σ4 H5 fun y H6 => H6 acc = some (.lst ys) ∧ ys.length < sizeLine ∧ ∃ m', m' < m ∧ W (i + 1) m' (ys ++ [y]) σ4 (upd H6 acc (.lst (ys ++ [y])))) ∧ (b = false → ∃ m', m' < m ∧ W (i + 1) m' ys σ4 H5))
def tLcF (mp : List (Option Nat)) (wi : TI) (g : TG) (tc : TT) (te : TE) : TE := fun σ H Q => wi σ H fun J H1 => ∀ acc, H1 acc = none → LcWF J g tc te (sub mp σ) H1 acc Q
section
variable {X : Cx} {elt tg iter cond : Expr} {scope : Scope} {pos : Pos} {wi : TI} {g : TG} {tc : TT} {te : TE} {Nc : List Str} {mp : List (Option Nat)}
theorem lc_runF (hc : X.calm = true) (S : LcOk X.N X.env.scope scope Nc mp) (hg : ∀ ex pins s H, PG (cxLc X scope Nc ex pins s H) tg g) (ht : ∀ ex pins s H, PT (cxLc X scope Nc ex pins s H) cond tc) (he : ∀ ex pins s H, PE (cxLc X scope Nc ex pins s H) elt te)
    {pins : List (Addr × Obj)} {σ : St} {H2 : Hp} {s2 : Shared} {E : Value → Shared → Prop} {it : Addr} {fp : List Addr} {tn : Nat → Heap → Prop} {J : It} {Q : VK} {RR : Value → Addr → Result → Shared → Prop}
    (I2 : Inv X pins σ H2 s2) (T : Turn X.prog X.w X.K tg J fp it tn) (st2 : tn 0 s2.heap) (f2 : ∀ b ∈ fp, FpOk X pins H2 b)
    (q : ∀ acc, H2 acc = none → LcWF J g tc te (sub mp σ) H2 acc Q)
    (fin : ∀ acc C H' s' m', Q (.ref acc) H' → Inv X pins σ H' s' → s'.heap.Ns C m' → H' C = none → X.s₀.heap.objs.size ≤ C → C ≠ X.env.locals → (∀ x c, X.env.cells.lookup x = some c → c ≠ C) → (∀ p ∈ X.pn ++ pins, p.1 ≠ C) → RR (.ref acc) C (.ok .next) s') :
    wpAny (model X.prog X.w) X.A (newList []) (fun acc s₃ => wpAny (model X.prog X.w) X.A (newFunctionEnv scope X.env.globals (clo scope.names X.env.cells) [] X.env.qual none .none (some X.env)) (fun cenv s₄ =>
      codeAny (model X.prog X.w) X.A (.compStart (.ListComp elt [⟨tg, iter, [cond], 0⟩] scope pos) 0 (.ref it) acc { cenv with scope := relabel scope X.env }) (RR acc cenv.locals) s₄) E s₃) E s2 := by
  refine wpAny_newObj_type (wpAny_newFunctionEnv S.nocell (by intro y hy; simp at hy) (fun h₁ hns₁ hsb₁ => ?_) S.kind)
  dsimp only at hns₁ hsb₁ ⊢
  have I3 := I2.lnew (its := []) (ys := []) (t' := s2.toks) .nil (Nat.zero_le _)
  have hacc : H2 s2.heap.objs.size = none := I2.fresh
  obtain ⟨W, ⟨m0, w0⟩, turn⟩ := q s2.heap.objs.size hacc
  have hpush : (s2.heap.push { cls := .type "list", dict := none, data := .seq ([] : List Value).toArray }).objs.size = s2.heap.objs.size + 1 := Heap.size_push ..
  have hlt : ∀ b ∈ fp, b < s2.heap.objs.size := fun b hb => by
    obtain ⟨o, e, _⟩ := T.obj _ _ st2 b hb
    exact Heap.lt_size e
  have f3 : ∀ b ∈ fp, FpOk X pins (upd H2 s2.heap.objs.size (.lst [])) b := fun b hb => ⟨by rw [upd_ne (Nat.ne_of_lt (hlt b hb))]; exact (f2 b hb).1, (f2 b hb).2⟩
  have I3' : Inv X pins σ (upd H2 s2.heap.objs.size (.lst [])) (withList s2) := I3
  have hsz : (withList s2).heap.objs.size = s2.heap.objs.size + 1 := hpush
  have hlt3 : ∀ b ∈ fp, b < (withList s2).heap.objs.size := fun b hb => by rw [hsz]; exact Nat.lt_succ_of_lt (hlt b hb)
  have k3 : ∀ b o, (withList s2).heap.get? b = some o → h₁.get? b = some o := fun b o e => hsb₁.extBut b o (Nat.ne_of_lt (Heap.lt_size e)) (Heap.get?_push_of_some _ e)
  have Ic := lc_start (tk := (withList s2).toks) I3' S f3 hlt3 hns₁ k3
  have st3 : tn 0 h₁ := T.keep _ _ _ st2 fun b hb o e => k3 b o (Heap.get?_push_of_some _ e)
  -- what the block's frame is to the def
  have cC : X.s₀.heap.objs.size ≤ (withList s2).heap.objs.size := I3'.sz
  have cL : (withList s2).heap.objs.size ≠ X.env.locals := Nat.ne_of_gt I3'.lt
  have cc : ∀ x c, X.env.cells.lookup x = some c → c ≠ (withList s2).heap.objs.size := fun x c e => by
    obtain ⟨v, o, ho, _⟩ := I3'.cell x c e
    exact Nat.ne_of_lt (Heap.lt_size ho)
  have cp : ∀ p ∈ X.pn ++ pins, p.1 ≠ (withList s2).heap.objs.size := fun p hp => Nat.ne_of_lt (Heap.lt_size (I3'.pin p hp).1)
  have stat : ∀ {H' : Hp}, (∀ b ∈ fp, H' b = none) → ∀ b ∈ fp, FpOk (cxLc X scope Nc fp pins (withList s2) (upd H2 s2.heap.objs.size (.lst []))) [] H' b := fun hn b hb =>
    ⟨hn b hb, Nat.ne_of_lt (hlt3 b hb), fun z => by
      rcases List.mem_cons.mp (I3'.stkSub b z) with e | e
      · exact (f3 b hb).2.1 e
      · exact (f3 b hb).2.2.1 e, .inl hb, fun x c e => (f3 b hb).2.2.2.2.1 x c (lc_sub I3' S e), fun p hp => (f3 b hb).2.2.2.2.2 p (by
        have : p ∈ (X.pn ++ pins) ++ [] := hp
        simpa using this)⟩
  have loop : ∀ s4 : Shared, s4 = { (withList s2) with heap := h₁, toks := (withList s2).toks } →
      codeAny (model X.prog X.w) X.A (.compLoop (.ListComp elt [⟨tg, iter, [cond], 0⟩] scope pos) 0 (.ref it) (.ref s2.heap.objs.size) (cxLc X scope Nc fp pins (withList s2) (upd H2 s2.heap.objs.size (.lst []))).env)
        (RR (.ref s2.heap.objs.size) (withList s2).heap.objs.size) s4 := by
    rintro s4 rfl
    refine compLoop_calmF (fun n s' => ∃ i ys σ' H', Inv (cxLc X scope Nc fp pins (withList s2) (upd H2 s2.heap.objs.size (.lst []))) [] σ' H' s' ∧ tn i s'.heap ∧ (∀ b ∈ fp, H' b = none) ∧ W i n ys σ' H') ?_ m0
      ⟨0, [], sub mp σ, _, Ic, st3, fun b hb => (f3 b hb).1, w0⟩
    rintro n s5 ⟨i, ys, σ5, H5, I5, st5, fr5, w5⟩
    rcases turn i n ys σ5 H5 w5 with ⟨stop, qn⟩ | ⟨go, step⟩
    · refine wpAny_mono (T.done (cxLc X scope Nc fp pins (withList s2) (upd H2 s2.heap.objs.size (.lst []))) rfl rfl rfl hc i [] s5 σ5 H5 (fun _ _ => False) I5 (stat fr5) st5 stop) (fun r s6 ⟨hr, I6⟩ => ?_) fun _ _ f => f.elim
      subst hr
      obtain ⟨m6, hn6, _⟩ := I6.loc
      refine ⟨fun _ => ?_, fun _ z => nomatch z⟩
      exact fin _ _ H5 s6 m6 qn (lc_end I3' f3 I6) hn6 I6.free cC cL cc cp
    · refine wpAny_mono (T.item (cxLc X scope Nc fp pins (withList s2) (upd H2 s2.heap.objs.size (.lst []))) rfl rfl rfl hc i [] s5 σ5 H5 (fun _ _ => False) I5 (stat fr5) st5 go) (fun r s6 ⟨u, hr, h6⟩ => ?_) fun _ _ f => f.elim
      subst hr
      refine ⟨(fun z => by cases z), ?_⟩
      rintro _ ⟨⟩
      refine wpAny_mono h6 (fun _ s7 ⟨x, H7, I7, r7, y7, st7, fr7⟩ => ?_) fun _ _ f => f.elim
      have I7' := I7.pinned (stat fr7) (T.obj _ _ st7)
      refine wpAny_mono (hg _ _ _ _ _ s7 σ5 H7 x u _ I7' r7 (step x H7 y7)) (fun _ s8 ⟨σ8, H8, I8, q8⟩ => ?_) fun _ _ f => f.elim
      refine wpAny_mono (ht _ _ _ _ _ s8 σ8 H8 _ I8 q8) (fun bb s9 ⟨H9, I9, p9, n9⟩ => ?_) fun _ _ f => f.elim
      have keeps : ∀ {H' : Hp} {s' : Shared}, Inv (cxLc X scope Nc fp pins (withList s2) (upd H2 s2.heap.objs.size (.lst []))) ([] ++ pinsAt fp s7.heap) σ8 H' s' → tn (i + 1) s'.heap ∧ ∀ b ∈ fp, H' b = none := fun {H' s'} J' =>
        ⟨T.keep _ _ _ st7 fun b hb o e => (J'.pin (b, o) (List.mem_append_right _ (List.mem_append_right _ (mem_pinsAt hb e)))).1, fun b hb => by
          obtain ⟨o, e, d⟩ := T.obj _ _ st7 b hb
          exact (J'.pin (b, o) (List.mem_append_right _ (List.mem_append_right _ (mem_pinsAt hb e)))).2.1⟩
      cases bb with
      | false =>
        obtain ⟨m', hm', w9⟩ := n9 rfl
        rw [if_neg Bool.false_ne_true]
        exact ⟨m', hm', i + 1, ys, σ8, H9, I9.unpinned, (keeps I9).1, (keeps I9).2, w9⟩
      | true =>
        rw [if_pos rfl]
        refine wpAny_mono (he _ _ _ _ _ s9 σ8 H9 _ I9 (p9 rfl)) (fun v s10 ⟨y, H10, I10, r10, a10, l10, m', hm', w10⟩ => ?_) fun _ _ f => f.elim
        refine wpAny_mono (mt_append (X := cxLc X scope Nc fp pins (withList s2) (upd H2 s2.heap.objs.size (.lst []))) _ s10 σ8 H10 (.ref s2.heap.objs.size) [y] (.ref s2.heap.objs.size) [v] (fun z Hz => z = .non ∧ Hz = upd H10 s2.heap.objs.size (.lst (ys ++ [y]))) I10 rfl (.cons r10 .nil) ⟨_, ys, y, rfl, rfl, a10, l10, rfl, rfl⟩) (fun v11 s11 ⟨z, H11, I11, _, _, e11⟩ => ?_) fun _ _ f => f.elim
        subst e11
        exact ⟨m', hm', i + 1, ys ++ [y], σ8, _, I11.unpinned, (keeps I11).1, (keeps I11).2, w10⟩
  exact codeAny_compStart_list (loop _ rfl) (T.self _ 0 _ _ _ st3 (loop _ rfl))
theorem ps_setLcF {i : Nat} {x : Str} {pos' spos : Pos} (hc : X.calm = true) (hN : X.N.Nodup) (hi' : X.N[i]? = some x) (hx : X.env.scope.names.lookup x = some .local) (S : LcOk X.N X.env.scope scope Nc mp) (hi : PI X tg iter wi)
    (hg : ∀ ex pins s H, PG (cxLc X scope Nc ex pins s H) tg g) (ht : ∀ ex pins s H, PT (cxLc X scope Nc ex pins s H) cond tc) (he : ∀ ex pins s H, PE (cxLc X scope Nc ex pins s H) elt te)
    (hsw : swapsWith (.ListComp elt [⟨tg, iter, [cond], 0⟩] scope pos) (some (.Name x pos')) spos.line X.env = pure true)
    (hf : ∀ x, foldedSetIterable iter X.env x = pure x := by intro _; rfl) : PS X (.Assign [.Name x pos'] (.ListComp elt [⟨tg, iter, [cond], 0⟩] scope pos) spos) (tAsg (tLcF mp wi g tc te) (gName i)) := by
  intro pins s σ H D I h
  rw [exec_Assign_Name_used _ _ _ _ hsw]
  refine wpAny_bind (wpAny_standAt (wpAny_bind ?_))
  show wpAny _ X.A (do let _ ← comprehension (.ListComp elt [⟨tg, iter, [cond], 0⟩] scope pos) scope X.env _ (newList []) false (eval iter X.env) (some (assign (.Name x pos') X.env))) _ _ s
  refine wpAny_bind (wpAny_mono (wpAny_comprehension_free (use := some (assign (.Name x pos') X.env)) (Q := fun _ s' => SP X pins D .next s') rfl hf (closure_eq (lc_cells I S)) S.kind S.names
    (thn (hi pins s σ H _ I h) fun v s1 h1 => thn h1 fun itv s2 h2 => ?_)) (fun _ s' hq => wpAny_pure (wpAny_pure hq)) fun _ _ e => e)
  obtain ⟨it, fp, tn, J, H2, e, I2, T, st2, f2, q⟩ := h2
  subst e
  refine lc_runF (Q := fun x H1 => gName i x σ H1 D.nx) (RR := fun acc C => compPost (model X.prog X.w) X.A X.xe (some (assign (.Name x pos') X.env)) (fun _ s' => SP X pins D .next s') acc C) hc S hg ht he I2 T st2 f2 q ?_
  intro acc C H' s' m' qq I' hn hC c1 c2 c3 c4
  show wpAny _ X.A (assign (.Name x pos') X.env (.ref acc)) _ _ _
  refine wpAny_assign_Name (store_ok2 (v := .ref acc) I' hN hi' (.inl hx) rfl (fun s5 I5 ⟨a, hs5, ha⟩ => ?_) (.inr hx))
  have hCa : C ≠ a := by
    rcases ha with z | z
    · rw [z]; exact c2
    · exact Ne.symm (c3 x a z)
  refine ⟨m', hn.sameBut hs5 hCa, fun h' hs => ⟨σ.set i (some (.ref acc)), H', ?_, qq⟩⟩
  exact I5.turnedNew (t' := s5.toks) (fun b o hb e => hs.extBut b o hb e) hC c1 c2 c3 c4
end
def tTruI (t : TE) : TT := fun σ H Q => t σ H fun x H' => ∃ i, x = .int i ∧ Q (i != 0) H'
theorem pt_truI {X : Cx} {a : Expr} {ta : TE} (ha : PE X a ta) (he : ∀ whole, isTrue a X.env whole = (do let v ← whole; standAt a.pos; holding [v] (truthy v))) : PT X a (tTruI ta) := by
  intro pins s σ H Q I h
  refine isTrue_plain (thn (ha pins s σ H _ I h) fun v s1 ⟨x, H1, I1, r1, i, e, q1⟩ => ?_) (he _)
  subst e
  exact tru_ok pins s1 σ H1 (.int i) v Q I1 r1 ⟨_, rfl, q1⟩
theorem lcF_range {lo : Int} {n : Nat} {tc : TT} {te : TE} {fr : St} {H1 : Hp} {acc : Addr} {Q : VK} (Pv : Nat → List V → Hp → Prop) (hn : n ≤ sizeLine) (h0 : Pv 0 [] (upd H1 acc (.lst [])))
    (hs : ∀ i ys H (N : Bool → Hp → Prop), i < n → ys.length ≤ i → Pv i ys H → (∀ b H5, (b = true → te (some (.int (lo + i)) :: fr) H5 fun y H6 => H6 acc = some (.lst ys) ∧ Pv (i + 1) (ys ++ [y]) (upd H6 acc (.lst (ys ++ [y])))) → (b = false → Pv (i + 1) ys H5) → N b H5) → tc (some (.int (lo + i)) :: fr) H N)
    (mono : ∀ {σ H} {R R' : VK}, (∀ v H, R v H → R' v H) → te σ H R → te σ H R')
    (hd : ∀ ys H, Pv n ys H → Q (.ref acc) H) : LcWF (Itr lo n) (gName 0) tc te (none :: fr) H1 acc Q := by
  refine ⟨fun i m ys σ2 H2 => m = n - i ∧ i ≤ n ∧ ys.length ≤ i ∧ (∃ v, σ2 = v :: fr) ∧ Pv i ys H2, ⟨n, by simp, Nat.zero_le _, Nat.le_refl _, ⟨_, rfl⟩, h0⟩, ?_⟩
  rintro i m ys σ2 H2 ⟨rfl, hi, hl, ⟨v, rfl⟩, p⟩
  by_cases hlt : i < n
  · refine .inr ⟨hlt, fun x H3 y3 => ?_⟩
    obtain ⟨rfl, rfl⟩ := y3
    show tc ((v :: fr).set 0 (some (.int (lo + i)))) _ _
    rw [List.set_cons_zero]
    refine hs i ys _ _ hlt hl p fun b H5 ht hf => ⟨fun e => mono (fun y H6 q => ?_) (ht e), fun e => ⟨n - (i + 1), by omega, rfl, hlt, by omega, ⟨_, rfl⟩, hf e⟩⟩
    exact ⟨q.1, by omega, n - (i + 1), by omega, rfl, hlt, by rw [List.length_append]; simp; omega, ⟨_, rfl⟩, q.2⟩
  · have e : i = n := by omega
    subst e
    exact .inl ⟨Nat.le_refl _, hd ys H2 p⟩
end L2

set_option maxHeartbeats 4000000
namespace K36
open PySem PySem.Spec PyProof.Rows L2 Am Pc Ba
theorem ps_never {X : Cx} {st : Stmt} : PS X st (fun _ _ _ => False) := fun _ _ _ _ _ _ h => h.elim
theorem pss_never {X : Cx} {sts : List Stmt} : PSs X sts (fun _ _ _ => False) := fun _ _ _ _ _ _ h => h.elim
theorem unlike_nodup {ns : List Int} (h : ns.Nodup) : unlike ns = ns.length := by
  have key : ∀ i, i ≤ ns.length → (firstMet (fun i => ns.getD i 0) i).length = i := by
    intro i
    induction i with
    | zero => intro _; rfl
    | succ i ih =>
      intro hi
      rw [firstMet_succ, step_length, firstMet_any, if_neg, ih (by omega)]
      intro z
      obtain ⟨y, hy, e⟩ := List.any_eq_true.mp z
      obtain ⟨j, hj, rfl⟩ := List.mem_map.mp hy
      have hj := List.mem_range.mp hj
      have e : ns.getD j 0 = ns.getD i 0 := by simpa using e
      rw [List.getD_eq_getElem?_getD, List.getD_eq_getElem?_getD, List.getElem?_eq_getElem (by omega), List.getElem?_eq_getElem (by omega)] at e
      have := (List.getElem_inj h).mp e
      omega
  exact key _ (Nat.le_refl _)
abbrev NB : List (Str × Int) := [("flip", 1), ("mix", 1), ("turn", 2), ("if", 2), ("pair", 2), ("swap", 2), ("cross", 3)]
abbrev MvT (nm : Str) (ns : List Int) : HO := .tup (.str nm :: ns.map V.int)
def named (nm : Str) (ns : List Int) : List Int := if nm = "turn" then ns.take 1 else ns
structure Form (nm : Str) (ns : List Int) : Prop where
  num : numAt NB nm = some (.int ns.length)
  len : ns.length ≤ 3
  turn : nm = "turn" → ∃ a k, ns = [a, k] ∧ 1 ≤ k ∧ k ≤ 7
structure Fits (nm : Str) (ns : List Int) (c : Nat) : Prop where
  form : Form nm ns
  low : ∀ a ∈ named nm ns, 0 ≤ a ∧ a < c
  nd : (named nm ns).Nodup
def spHasForm : Sp := fun vs H Q _ => ∃ (p : Addr) (nm : Str) (ns : List Int), vs = [.ref p] ∧ H p = some (MvT nm ns) ∧ Form nm ns ∧ ∀ H', Same H H' → Q (.bl true) H'
def spNamed : Sp := fun vs H Q _ => ∃ (p : Addr) (nm : Str) (ns : List Int), vs = [.ref p] ∧ H p = some (MvT nm ns) ∧ Form nm ns ∧ ∀ (r : Addr) (H' : Hp), Same H H' → H' r = some (.tup ((named nm ns).map V.int)) → Q (.ref r) H'
def spCheck : Sp := fun vs H Q _ => ∃ (p : Addr) (nm : Str) (ns : List Int) (c : Nat), vs = [.ref p, .int c] ∧ H p = some (MvT nm ns) ∧ Fits nm ns c ∧ ∀ H', Same H H' → Q (.ref p) H'
def spCellsOf (K : PySem.W.Frag) : Sp := fun vs H Q _ => ∃ (l : Addr) (xs : List V) (c : Nat), vs = [.ref l] ∧ SqL K H l xs ∧ xs.length = 2 ^ c ∧ c ≤ 6 ∧ Q (.int c) H
theorem bits_pow {c : Nat} (h : c ≤ 6) : Builtin.Int.intBits (((2 ^ c : Nat) : Int)) = c + 1 := by
  have : c = 0 ∨ c = 1 ∨ c = 2 ∨ c = 3 ∨ c = 4 ∨ c = 5 ∨ c = 6 := by omega
  rcases this with rfl | rfl | rfl | rfl | rfl | rfl | rfl <;> decide +kernel
theorem at0 {x : V} {xs : List V} : atI (x :: xs) 0 = some x := atI_nat (show (x :: xs)[0]? = some x from rfl)
theorem one_ix {x : V} {xs : List V} : HT.sIx (x :: xs).length 0 (some 1) = 1 := by
  have := HT.sIx_nat (x :: xs).length 0 1
  rw [show ((1 : Nat) : Int) = 1 from rfl] at this
  rw [this]
  simp
theorem cut_one {x : V} {xs : List V} : cutV (x :: xs) (some 1) none = xs := by
  unfold cutV
  rw [one_ix]
  have e2 : HT.sIx (x :: xs).length (x :: xs).length none = (x :: xs).length := rfl
  rw [e2]
  simp
theorem kit_ss (K : PySem.W.Frag) : PySem.W.kitOne K (.type "str") (.type "str") = some true := by unfold PySem.W.kitOne; rw [if_pos (by decide)]
section
variable {P : Program} {w : World} {K : PySem.W.Frag} {mg : Str → Option Value} {base : Heap} {k : Nat} {h : Heap}
theorem sc_iswhole : FnScope ["thing"] ["thing"] (defScope (top 14)) := ⟨rfl, rfl, rfl, by decide +kernel, rfl, by decide +kernel, by decide +kernel⟩
theorem ok_iswhole (F : FunAt K "is_whole" (top 14) .none) (X : K.In h) (G : h.Ns mainGlobals mg) (B : Bs mg) : Cal P w K mg base (k + 1) "is_whole" ["thing"] spWhole := by
  have nd := sc_iswhole.nd
  refine F.cal X G sc_iswhole (bnd1 fun _ _ _ _ _ _ _ => rfl) (fun vs H Q E h => ?_) (fun f cdv A outer s H vs Q E hr h => ?_)
  · obtain ⟨i, rfl, _⟩ := h; rfl
  obtain ⟨i, rfl, q⟩ := h
  refine ⟨_, (@pss_one _ _ _ (ps_ret (pe_and (pe_callB call_isinst rfl B.isinstance boot_isinstance (pa_cons (pv 0) (pa_cons (pe_bltn (v := .ty "int") rfl B.int boot_int rfl) pa_nil))) (pe_one (pe_not (pe_callB call_isinst rfl B.isinstance boot_isinstance (pa_cons (pv 0) (pa_cons (pe_bltn (v := .ty "bool") rfl B.bool boot_bool rfl) pa_nil)))))))), ?_⟩
  try dsimp only [cxK]
  refine ⟨_, rfl, _, _, _, true, rfl, TyOf.int i, kit_ii K, _, rfl, iteT ?_⟩
  exact ⟨_, rfl, _, _, _, false, rfl, TyOf.int i, kit_ib K, _, rfl, q⟩
theorem sc_cellsof : FnScope ["board"] ["board"] (defScope (top 30)) := ⟨rfl, rfl, rfl, by decide +kernel, rfl, by decide +kernel, by decide +kernel⟩
theorem ok_cellsof (F : FunAt K "cells_of" (top 30) .none) (X : K.In h) (G : h.Ns mainGlobals mg) (B : Bs mg) : Cal P w K mg base (k + 1) "cells_of" ["board"] (spCellsOf K) := by
  have nd := sc_cellsof.nd
  refine F.cal X G sc_cellsof (bnd1 fun _ _ _ _ _ _ _ => rfl) (fun vs H Q E h => ?_) (fun f cdv A outer s H vs Q E hr h => ?_)
  · obtain ⟨l, xs, c, rfl, _⟩ := h; rfl
  obtain ⟨l, xs, c, rfl, hl, len, c6, q⟩ := h
  refine ⟨_, (@pss_one _ _ _ (ps_ret (pe_op op_sub (pe_bm0 PySem.F.plainAttrs_int PySem.F.slot_int_bit_length PySem.F.type_int_bit_length mt_bitlen (pe_callB call_len_seq rfl B.len PySem.boot_len (pa_cons (pv 0) pa_nil))) pe_int))), ?_⟩
  try dsimp only [cxK]
  refine ⟨_, rfl, l, _, rfl, .inl hl, rfl, _, rfl, rfl, _, _, rfl, rfl, ?_⟩
  show Q (.int (((Builtin.Int.intBits ((xs.length : Nat) : Int) : Nat) : Int) - 1)) H
  rw [len, bits_pow c6, show (((c + 1 : Nat) : Int) - 1) = (c : Int) by omega]
  exact q
theorem sc_named : FnScope ["move"] ["move"] (defScope (top 35)) := ⟨rfl, rfl, rfl, by decide +kernel, rfl, by decide +kernel, by decide +kernel⟩
theorem ok_named (F : FunAt K "named_cells" (top 35) .none) (X : K.In h) (G : h.Ns mainGlobals mg) (B : Bs mg) : Cal P w K mg base (k + 1) "named_cells" ["move"] spNamed := by
  have nd := sc_named.nd
  refine F.cal X G sc_named (bnd1 fun _ _ _ _ _ _ _ => rfl) (fun vs H Q E h => ?_) (fun f cdv A outer s H vs Q E hr h => ?_)
  · obtain ⟨p, nm, ns, rfl, _⟩ := h; rfl
  obtain ⟨p, nm, ns, rfl, hp, FO, kq⟩ := h
  have SP : SqT K H p (.str nm :: ns.map V.int) := SqT.of hp
  refine ⟨_, (@pss_one _ _ _ (ps_ret (pe_ifExp (pt_cmpR op_eq (pe_ix ix_tup (pv 0) pe_int (fun _ _ => rfl)) pe_str (nomark _)) (pe_slice sl_tupA (pv 0) (po_some pe_int) (po_some pe_int)) (pe_slice sl_tupA (pv 0) (po_some pe_int) po_none)))), ?_⟩
  try dsimp only [cxK]
  refine ⟨_, rfl, p, _, _, .str nm, rfl, rfl, SP, at0, rfl, _, rfl, decI (fun z => ?_) (fun z => ?_)⟩
  · have e : nm = "turn" := V.str.inj z
    obtain ⟨a, kk, rfl, _⟩ := FO.turn e
    refine ⟨_, rfl, _, rfl, _, rfl, p, _, rfl, SP, .inr ⟨fun c => absurd c.1 (by rw [one_ix]; decide), fun r hr => kq r _ (same_new hr _) ?_⟩⟩
    rw [upd_same]
    unfold named
    rw [if_pos e]
    rfl
  · have e : nm ≠ "turn" := fun c => z (by rw [c])
    refine ⟨_, rfl, _, rfl, p, _, rfl, SP, .inr ⟨fun c => absurd c.1 (by rw [one_ix]; decide), fun r hr => kq r _ (same_new hr _) ?_⟩⟩
    rw [upd_same, cut_one]
    unfold named
    rw [if_neg e]
theorem sc_form : FnScope ["thing"] ["thing"] (defScope (top 34)) := ⟨rfl, rfl, rfl, by decide +kernel, rfl, by decide +kernel, by decide +kernel⟩
theorem ok_form (F : FunAt K "has_move_form" (top 34) .none) (X : K.In h) (G : h.Ns mainGlobals mg) (B : Bs mg) {aN : Addr} (gN : mg "NUMBERS_BEHIND" = some (.ref aN)) (DN : KDic K w.params aN NB) (c_is_whole : Cal P w K mg base k "is_whole" ["thing"] spWhole) :
    Cal P w K mg base (k + 1) "has_move_form" ["thing"] spHasForm := by
  have nd := sc_form.nd
  refine F.cal X G sc_form (bnd1 fun _ _ _ _ _ _ _ => rfl) (fun vs H Q E h => ?_) (fun f cdv A outer s H vs Q E hr h => ?_)
  · obtain ⟨p, nm, ns, rfl, _⟩ := h; rfl
  obtain ⟨p, nm, ns, rfl, hp, FO, kq⟩ := h
  have SP : SqT K H p (.str nm :: ns.map V.int) := SqT.of hp
  have l3 := FO.len
  have lm : (V.str nm :: ns.map V.int).length = ns.length + 1 := by rw [List.length_cons, List.length_map]
  refine ⟨_, (@pss_cons _ _ _ _ _ (ps_if (PW.pt (pw_or (pt_not (pt_val (pe_callB call_isinst rfl B.isinstance boot_isinstance (pa_cons (pv 0) (pa_cons (pe_bltn (v := .ty "tuple") rfl B.tuple boot_tuple rfl) pa_nil))))) (pw_or1 (pt_cmpR op_eq (pe_callB call_len_seq rfl B.len PySem.boot_len (pa_cons (pv 0) pa_nil)) pe_int (nomark _)))))
      (@pss_one _ _ _ (ps_ret pe_bl))
      pss_nil)
    (@pss_cons _ _ _ _ _ (ps_if (PW.pt (pw_or (pt_not (pt_val (pe_callB call_isinst rfl B.isinstance boot_isinstance (pa_cons (pe_ix ix_tup (pv 0) pe_int (fun _ _ => rfl)) (pa_cons (pe_bltn (v := .ty "str") rfl B.str boot_str rfl) pa_nil))))) (pw_or1 (pt_cmp (pc_knotin DN (pe_ix ix_tup (pv 0) pe_int (fun _ _ => rfl)) (pe_glob (v := .ref aN) rfl gN rfl))))))
      (@pss_one _ _ _ (ps_ret pe_bl))
      pss_nil)
    (@pss_cons _ _ _ _ _ (ps_if (pt_cmpR op_ne (pe_callB call_len_seq rfl B.len PySem.boot_len (pa_cons (pv 0) pa_nil)) (pe_op op_add pe_int (pe_kget DN (pe_glob (v := .ref aN) rfl gN rfl) (pe_ix ix_tup (pv 0) pe_int (fun _ _ => rfl)) (fun _ _ => rfl))) (nomark _))
      (@pss_one _ _ _ (ps_ret pe_bl))
      pss_nil)
    (@pss_cons _ _ _ _ _ (ps_if (pt_not (pt_val (pe_callB (call_allL rfl) rfl B.all boot_all (pa_cons (pe_lc rfl (LcOk.of (Nc := ["number"]) (mp := [none]) (by kernel_rfl)) (pi_tup (pe_slice sl_tupA (pv 0) (po_some pe_int) po_none)) (fun _ _ _ _ => (pg_name (i := 0) (show (["number"] : List Str).Nodup by decide +kernel) rfl (Or.inl rfl))) (fun _ _ _ _ => (pe_cal c_is_whole hr rfl (pa_cons (pv 0) pa_nil)))) pa_nil))))
      (@pss_one _ _ _ (ps_ret pe_bl))
      pss_nil)
    (@pss_one _ _ _ (ps_ret (pe_or (pe_cmpR op_ne (pe_ix ix_tup (pv 0) pe_int (fun _ _ => rfl)) pe_str (nomark _)) (pe_one (pe_and (pe_cmpR op_ge (pe_ix ix_tup (pv 0) pe_int (fun _ _ => rfl)) pe_int (nomark _)) (pe_one (pe_cmpR op_le (pe_ix ix_tup (pv 0) pe_int (fun _ _ => rfl)) pe_int (nomark _)))))))))))), ?_⟩
  try dsimp only [cxK]
  refine ⟨_, rfl, _, _, _, true, rfl, TyOf.tup hp, kit_tt K, _, rfl, iteF ⟨_, rfl, p, _, rfl, .inr SP, rfl, _, rfl, eqI (fun z => absurd z (by rw [lm]; omega)) (fun _ => ?_)⟩⟩
  refine ⟨_, rfl, p, _, _, .str nm, rfl, rfl, SP, at0, _, _, _, true, rfl, TyOf.str nm, kit_ss K, _, rfl, iteF ⟨_, rfl, p, _, _, .str nm, rfl, rfl, SP, at0, nm, rfl, _, rfl, ?_⟩⟩
  rw [FO.num]
  refine iteF ⟨_, rfl, p, _, rfl, .inr SP, _, rfl, p, _, _, .str nm, rfl, rfl, SP, at0, nm, _, rfl, FO.num, _, _, rfl, rfl, rfl, _, rfl, neI (fun z => absurd (by rw [lm]; omega) z) (fun _ => ?_)⟩
  refine ⟨_, rfl, _, rfl, p, _, rfl, SP, .inr ⟨fun c => absurd c.1 (by rw [one_ix]; decide), fun r hr => ?_⟩⟩
  rw [cut_one]
  have s1 := same_new hr (.tup (ns.map V.int))
  refine ⟨r, rfl, ⟨_, SqT.of upd_same⟩, fun acc hacc => ?_⟩
  refine lc_tupM (K := K) (fun _ => .bl true) (SqT.of upd_same) (t64 (by omega)) hacc (fun n H2 N hn S2 kN => ⟨_, rfl, n, rfl, kN⟩) (fun H3 S3 a3 => ?_)
  have e : ns.map (fun _ => V.bl true) = (ns.map fun _ => true).map V.bl := by rw [List.map_map]; rfl
  rw [e] at a3
  have S03 := s1.trans S3
  have SP3 : SqT K H3 p (.str nm :: ns.map V.int) := SqT.of (S03 _ _ hp)
  refine ⟨acc, _, rfl, SqL.of a3, _, rfl, nblI (fun z => absurd z (by simp)) (fun _ => ?_)⟩
  refine ⟨_, rfl, p, _, _, .str nm, rfl, rfl, SP3, at0, rfl, _, rfl, nblI (fun _ => kq _ S03) (fun z => ?_)⟩
  obtain ⟨a, kk, rfl, k1, k7⟩ := FO.turn (V.str.inj (of_decide_eq_true z))
  refine ⟨_, rfl, p, _, _, .int kk, rfl, rfl, SP3, rfl, _, _, rfl, rfl, _, rfl, decI (fun _ => ?_) (fun z => absurd k1 z)⟩
  refine ⟨_, rfl, p, _, _, .int kk, rfl, rfl, SP3, rfl, _, _, rfl, rfl, ?_⟩
  show Q (.bl (decide (kk ≤ 7))) H3
  rw [decide_eq_true k7]
  exact kq _ S03
theorem sc_check : FnScope ["move", "cells", "named"] ["move", "cells"] (defScope (top 33)) := ⟨rfl, rfl, rfl, by decide +kernel, rfl, by decide +kernel, by decide +kernel⟩
theorem ok_check (F : FunAt K "check_move" (top 33) .none) (X : K.In h) (G : h.Ns mainGlobals mg) (B : Bs mg) (c_has_move_form : Cal P w K mg base k "has_move_form" ["thing"] spHasForm) (c_named_cells : Cal P w K mg base k "named_cells" ["move"] spNamed) :
    Cal P w K mg base (k + 1) "check_move" ["move", "cells"] spCheck := by
  have nd := sc_check.nd
  refine F.cal X G sc_check (bnd2 fun _ _ _ _ _ _ _ _ => rfl) (fun vs H Q E h => ?_) (fun f cdv A outer s H vs Q E hr h => ?_)
  · obtain ⟨p, nm, ns, c, rfl, _⟩ := h; rfl
  obtain ⟨p, nm, ns, c, rfl, hp, FI, kq⟩ := h
  have l3 : (named nm ns).length ≤ 3 := by
    have := FI.form.len
    unfold named
    split
    · rw [List.length_take]; omega
    · exact this
  refine ⟨_, (@pss_cons _ _ _ _ _ (ps_if (pt_not (pt_val (pe_cal c_has_move_form hr rfl (pa_cons (pv 0) pa_nil))))
      (@pss_one _ _ _ ps_never)
      pss_nil)
    (@pss_cons _ _ _ _ _ (@ps_set _ _ 2 _ _ _ _ nd rfl (Or.inl rfl) (pe_cal c_named_cells hr rfl (pa_cons (pv 0) pa_nil)) rfl (.inl rfl))
    (@pss_cons _ _ _ _ _ (ps_if (pt_val (pe_callB (call_anyL rfl) rfl B.any boot_any (pa_cons (pe_lc rfl (LcOk.of (Nc := ["cell", "cells"]) (mp := [none, some 1]) (by kernel_rfl)) (pi_tup (pv 2)) (fun _ _ _ _ => (pg_name (i := 0) (show (["cell", "cells"] : List Str).Nodup by decide +kernel) rfl (Or.inl rfl))) (fun _ _ _ _ => (pe_or (pe_cmpR op_lt (pv 0) pe_int (nomark _)) (pe_one (pe_cmpR op_ge (pv 0) (pv 1) (nomark _)))))) pa_nil)))
      (@pss_one _ _ _ ps_never)
      pss_nil)
    (@pss_cons _ _ _ _ _ (ps_if (pt_cmpR op_ne (pe_callB call_lenS rfl B.len PySem.boot_len (pa_cons (pe_callTy (call_setT rfl) rfl B.set boot_set (pa_cons (pv 2) pa_nil)) pa_nil)) (pe_callB call_len_seq rfl B.len PySem.boot_len (pa_cons (pv 2) pa_nil)) (nomark _))
      (@pss_one _ _ _ ps_never)
      pss_nil)
    (@pss_one _ _ _ (ps_ret (pv 0))))))), ?_⟩
  try dsimp only [cxK]
  refine ⟨_, rfl, p, nm, ns, rfl, hp, FI.form, fun H1 S1 => ⟨_, rfl, iteF ?_⟩⟩
  refine ⟨_, rfl, p, nm, ns, rfl, S1 _ _ hp, FI.form, fun r H2 S2 hr => ?_⟩
  have SR : SqT K H2 r ((named nm ns).map V.int) := SqT.of hr
  refine ⟨_, rfl, r, rfl, ⟨_, SR⟩, fun acc hacc => ?_⟩
  refine lc_tupM (K := K) (fun _ => .bl false) SR (t64 (by omega)) hacc (fun n H2 N hn S2 kN => ?_) (fun H3 S3 a3 => ?_)
  · obtain ⟨n0, nc⟩ := FI.low n hn
    refine ⟨_, rfl, _, _, rfl, rfl, _, rfl, decI (fun z => absurd z (by omega)) (fun _ => ?_)⟩
    refine ⟨_, rfl, _, rfl, _, _, rfl, rfl, ?_⟩
    show N (.bl (decide ((c : Int) ≤ n))) _
    rw [decide_eq_false (by omega)]
    exact kN
  have e : (named nm ns).map (fun _ => V.bl false) = ((named nm ns).map fun _ => false).map V.bl := by rw [List.map_map]; rfl
  rw [e] at a3
  refine ⟨acc, _, rfl, SqL.of a3, _, rfl, ?_⟩
  rw [show ((named nm ns).map fun _ => false).any id = false by simp]
  refine iteF ?_
  refine ⟨_, rfl, r, _, rfl, S3.tup SR, by omega, fun l S hl => ?_⟩
  have s4 := same_new hl (.set S (unlike (named nm ns)))
  have un := unlike_nodup FI.nd
  refine ⟨l, S, _, rfl, upd_same, by omega, _, rfl, r, _, rfl, .inr (s4.tup (S3.tup SR)), rfl, _, rfl, neI (fun z => absurd (by rw [un, List.length_map]) z) (fun _ => ?_)⟩
  exact ⟨_, rfl, kq _ (((S1.trans S2).trans S3).trans s4)⟩
end
end K36

set_option maxHeartbeats 4000000
namespace K36
open PySem PySem.Spec PyProof.Rows L2 Am Pc Ba
/-! moves that change places, over words -/
inductive Mv where
  | flip (a : Nat)
  | turn (a k : Nat)
  | iff (a b : Nat)
  | pair (a b : Nat)
  | swap (a b : Nat)
  | cross (a b d : Nat)
def exch (w a b : Nat) : Nat := if w &&& (2 ^ a ||| 2 ^ b) = 2 ^ a ∨ w &&& (2 ^ a ||| 2 ^ b) = 2 ^ b then w ^^^ (2 ^ a ||| 2 ^ b) else w
namespace Mv
def nm : Mv → Str
  | flip _ => "flip"
  | turn _ _ => "turn"
  | iff _ _ => "if"
  | pair _ _ => "pair"
  | swap _ _ => "swap"
  | cross _ _ _ => "cross"
def ns : Mv → List Int
  | flip a => [(a : Int)]
  | turn a k => [(a : Int), (k : Int)]
  | iff a b => [(a : Int), (b : Int)]
  | pair a b => [(a : Int), (b : Int)]
  | swap a b => [(a : Int), (b : Int)]
  | cross a b d => [(a : Int), (b : Int), (d : Int)]
def Ok (c : Nat) : Mv → Prop
  | flip a => a < c
  | turn a k => a < c ∧ 1 ≤ k ∧ k ≤ 7
  | iff a b => a < c ∧ b < c ∧ a ≠ b
  | pair a b => a < c ∧ b < c ∧ a ≠ b
  | swap a b => a < c ∧ b < c ∧ a ≠ b
  | cross a b d => a < c ∧ b < c ∧ d < c ∧ a ≠ b ∧ a ≠ d ∧ b ≠ d
def to (w : Nat) : Mv → Nat
  | flip a => w ^^^ 2 ^ a
  | iff a b => if w &&& 2 ^ a = 0 then w else w ^^^ 2 ^ b
  | swap a b => exch w a b
  | cross a b d => if w &&& 2 ^ a = 0 then w else exch w b d
  | _ => w
def sp (w : Nat) : Mv → Nat
  | turn a k => if w &&& 2 ^ a = 2 ^ a then k else 0
  | pair a b => if w &&& (2 ^ a ||| 2 ^ b) = (2 ^ a ||| 2 ^ b) then 4 else 0
  | _ => 0
end Mv
abbrev at2 (w a : Nat) : Nat := w / 2 ^ a % 2
def c1 (c a w : Nat) : Bool := decide ((Mv.flip a).to w < 2 ^ c) && decide ((Mv.flip a).to ((Mv.flip a).to w) = w) && decide ((w : Int) + (1 - 2 * (at2 w a : Int)) * ((2 ^ a : Nat) : Int) = ((Mv.flip a).to w : Nat)) &&
  decide ((if w &&& 2 ^ a = 2 ^ a then 1 else 0) = at2 w a)
def c2 (c a b w : Nat) : Bool := decide (a = b) || (decide ((Mv.iff a b).to w < 2 ^ c) && decide ((Mv.iff a b).to ((Mv.iff a b).to w) = w) && decide ((w : Int) + (at2 w a : Int) * (1 - 2 * (at2 w b : Int)) * ((2 ^ b : Nat) : Int) = ((Mv.iff a b).to w : Nat)) &&
  decide ((Mv.swap a b).to w < 2 ^ c) && decide ((Mv.swap a b).to ((Mv.swap a b).to w) = w) && decide ((w : Int) + ((at2 w b : Int) - (at2 w a : Int)) * (((2 ^ a : Nat) : Int) - ((2 ^ b : Nat) : Int)) = ((Mv.swap a b).to w : Nat)) &&
  decide (4 * at2 w a * at2 w b = (Mv.pair a b).sp w))
def c3 (c a b d w : Nat) : Bool := decide (a = b) || decide (a = d) || decide (b = d) || (decide ((Mv.cross a b d).to w < 2 ^ c) && decide ((Mv.cross a b d).to ((Mv.cross a b d).to w) = w) &&
  decide ((w : Int) + (at2 w a : Int) * ((at2 w d : Int) - (at2 w b : Int)) * (((2 ^ b : Nat) : Int) - ((2 ^ d : Nat) : Int)) = ((Mv.cross a b d).to w : Nat)))
theorem c1_all : ((List.range 7).all fun c => (List.range c).all fun a => (List.range (2 ^ c)).all fun w => c1 c a w) = true := by decide +kernel
theorem c2_all : ((List.range 7).all fun c => (List.range c).all fun a => (List.range c).all fun b => (List.range (2 ^ c)).all fun w => c2 c a b w) = true := by decide +kernel
theorem c3_all : ((List.range 7).all fun c => (List.range c).all fun a => (List.range c).all fun b => (List.range c).all fun d => (List.range (2 ^ c)).all fun w => c3 c a b d w) = true := by decide +kernel
theorem get1 {p : Nat → Bool} {n i : Nat} (h : (List.range n).all p = true) (hi : i < n) : p i = true := List.all_eq_true.mp h i (List.mem_range.mpr hi)
section
variable {c a b d w : Nat}
theorem c1_at (hc : c ≤ 6) (ha : a < c) (hw : w < 2 ^ c) : c1 c a w = true := get1 (get1 (get1 c1_all (by omega : c < 7)) ha) hw
theorem c2_at (hc : c ≤ 6) (ha : a < c) (hb : b < c) (hw : w < 2 ^ c) : c2 c a b w = true := get1 (get1 (get1 (get1 c2_all (by omega : c < 7)) ha) hb) hw
theorem c3_at (hc : c ≤ 6) (ha : a < c) (hb : b < c) (hd : d < c) (hw : w < 2 ^ c) : c3 c a b d w = true := get1 (get1 (get1 (get1 (get1 c3_all (by omega : c < 7)) ha) hb) hd) hw
theorem f_flip (hc : c ≤ 6) (ha : a < c) (hw : w < 2 ^ c) : (Mv.flip a).to w < 2 ^ c ∧ (Mv.flip a).to ((Mv.flip a).to w) = w ∧ (w : Int) + (1 - 2 * (at2 w a : Int)) * ((2 ^ a : Nat) : Int) = ((Mv.flip a).to w : Nat) ∧ (if w &&& 2 ^ a = 2 ^ a then 1 else 0) = at2 w a := by
  have := c1_at hc ha hw
  unfold c1 at this
  simp only [Bool.and_eq_true, decide_eq_true_eq] at this
  exact ⟨this.1.1.1, this.1.1.2, this.1.2, this.2⟩
theorem f_two (hc : c ≤ 6) (ha : a < c) (hb : b < c) (n : a ≠ b) (hw : w < 2 ^ c) : ((Mv.iff a b).to w < 2 ^ c ∧ (Mv.iff a b).to ((Mv.iff a b).to w) = w ∧ (w : Int) + (at2 w a : Int) * (1 - 2 * (at2 w b : Int)) * ((2 ^ b : Nat) : Int) = ((Mv.iff a b).to w : Nat)) ∧
    ((Mv.swap a b).to w < 2 ^ c ∧ (Mv.swap a b).to ((Mv.swap a b).to w) = w ∧ (w : Int) + ((at2 w b : Int) - (at2 w a : Int)) * (((2 ^ a : Nat) : Int) - ((2 ^ b : Nat) : Int)) = ((Mv.swap a b).to w : Nat)) ∧ 4 * at2 w a * at2 w b = (Mv.pair a b).sp w := by
  have := c2_at hc ha hb hw
  unfold c2 at this
  rw [decide_eq_false n, Bool.false_or] at this
  simp only [Bool.and_eq_true, decide_eq_true_eq] at this
  obtain ⟨⟨⟨⟨⟨⟨h1, h2⟩, h3⟩, h4⟩, h5⟩, h6⟩, h7⟩ := this
  exact ⟨⟨h1, h2, h3⟩, ⟨h4, h5, h6⟩, h7⟩
theorem f_cross (hc : c ≤ 6) (ha : a < c) (hb : b < c) (hd : d < c) (n1 : a ≠ b) (n2 : a ≠ d) (n3 : b ≠ d) (hw : w < 2 ^ c) : (Mv.cross a b d).to w < 2 ^ c ∧ (Mv.cross a b d).to ((Mv.cross a b d).to w) = w ∧
    (w : Int) + (at2 w a : Int) * ((at2 w d : Int) - (at2 w b : Int)) * (((2 ^ b : Nat) : Int) - ((2 ^ d : Nat) : Int)) = ((Mv.cross a b d).to w : Nat) := by
  have := c3_at hc ha hb hd hw
  unfold c3 at this
  rw [decide_eq_false n1, decide_eq_false n2, decide_eq_false n3, Bool.false_or, Bool.false_or, Bool.false_or] at this
  simp only [Bool.and_eq_true, decide_eq_true_eq] at this
  exact ⟨this.1.1, this.1.2, this.2⟩
end
theorem Mv.to_lt {v : Mv} {c w : Nat} (hc : c ≤ 6) (h : v.Ok c) (hw : w < 2 ^ c) : v.to w < 2 ^ c := by
  cases v with
  | flip a => exact (f_flip hc h hw).1
  | turn a k => exact hw
  | iff a b => exact (f_two hc h.1 h.2.1 h.2.2 hw).1.1
  | pair a b => exact hw
  | swap a b => exact (f_two hc h.1 h.2.1 h.2.2 hw).2.1.1
  | cross a b d => exact (f_cross hc h.1 h.2.1 h.2.2.1 h.2.2.2.1 h.2.2.2.2.1 h.2.2.2.2.2 hw).1
theorem Mv.fits {v : Mv} {c : Nat} (h : v.Ok c) : Fits v.nm v.ns c := by
  cases v with
  | flip a =>
    have e : named "flip" [(a : Int)] = [(a : Int)] := by unfold named; rw [if_neg (by decide +kernel)]
    have h : a < c := h
    exact ⟨⟨(show numAt NB "flip" = some (.int ((1 : Nat) : Int)) by decide +kernel), (show 1 ≤ 3 by decide), fun z => absurd (show ("flip" : Str) = "turn" from z) (by decide +kernel)⟩, by show ∀ x ∈ named "flip" [(a : Int)], _; rw [e]; intro b hb; rw [List.mem_singleton.mp hb]; omega, by show (named "flip" [(a : Int)]).Nodup; rw [e]; simp⟩
  | turn a k =>
    have e : named "turn" [(a : Int), (k : Int)] = [(a : Int)] := by unfold named; rw [if_pos rfl]; rfl
    have h : a < c ∧ 1 ≤ k ∧ k ≤ 7 := h
    exact ⟨⟨(show numAt NB "turn" = some (.int ((2 : Nat) : Int)) by decide +kernel), (show 2 ≤ 3 by decide), fun _ => ⟨a, k, rfl, by omega, by omega⟩⟩, by show ∀ x ∈ named "turn" [(a : Int), (k : Int)], _; rw [e]; intro b hb; rw [List.mem_singleton.mp hb]; omega, by show (named "turn" [(a : Int), (k : Int)]).Nodup; rw [e]; simp⟩
  | iff a b =>
    have e : named "if" [(a : Int), (b : Int)] = [(a : Int), (b : Int)] := by unfold named; rw [if_neg (by decide +kernel)]
    have h : a < c ∧ b < c ∧ a ≠ b := h
    exact ⟨⟨(show numAt NB "if" = some (.int ((2 : Nat) : Int)) by decide +kernel), (show 2 ≤ 3 by decide), fun z => absurd (show ("if" : Str) = "turn" from z) (by decide +kernel)⟩, by show ∀ x ∈ named "if" [(a : Int), (b : Int)], _; rw [e]; intro x hx; simp at hx; omega, by show (named "if" [(a : Int), (b : Int)]).Nodup; rw [e]; simp; omega⟩
  | pair a b =>
    have e : named "pair" [(a : Int), (b : Int)] = [(a : Int), (b : Int)] := by unfold named; rw [if_neg (by decide +kernel)]
    have h : a < c ∧ b < c ∧ a ≠ b := h
    exact ⟨⟨(show numAt NB "pair" = some (.int ((2 : Nat) : Int)) by decide +kernel), (show 2 ≤ 3 by decide), fun z => absurd (show ("pair" : Str) = "turn" from z) (by decide +kernel)⟩, by show ∀ x ∈ named "pair" [(a : Int), (b : Int)], _; rw [e]; intro x hx; simp at hx; omega, by show (named "pair" [(a : Int), (b : Int)]).Nodup; rw [e]; simp; omega⟩
  | swap a b =>
    have e : named "swap" [(a : Int), (b : Int)] = [(a : Int), (b : Int)] := by unfold named; rw [if_neg (by decide +kernel)]
    have h : a < c ∧ b < c ∧ a ≠ b := h
    exact ⟨⟨(show numAt NB "swap" = some (.int ((2 : Nat) : Int)) by decide +kernel), (show 2 ≤ 3 by decide), fun z => absurd (show ("swap" : Str) = "turn" from z) (by decide +kernel)⟩, by show ∀ x ∈ named "swap" [(a : Int), (b : Int)], _; rw [e]; intro x hx; simp at hx; omega, by show (named "swap" [(a : Int), (b : Int)]).Nodup; rw [e]; simp; omega⟩
  | cross a b d =>
    have e : named "cross" [(a : Int), (b : Int), (d : Int)] = [(a : Int), (b : Int), (d : Int)] := by unfold named; rw [if_neg (by decide +kernel)]
    have h : a < c ∧ b < c ∧ d < c ∧ a ≠ b ∧ a ≠ d ∧ b ≠ d := h
    exact ⟨⟨(show numAt NB "cross" = some (.int ((3 : Nat) : Int)) by decide +kernel), (show 3 ≤ 3 by decide), fun z => absurd (show ("cross" : Str) = "turn" from z) (by decide +kernel)⟩, by show ∀ x ∈ named "cross" [(a : Int), (b : Int), (d : Int)], _; rw [e]; intro x hx; simp at hx; omega, by show (named "cross" [(a : Int), (b : Int), (d : Int)]).Nodup; rw [e]; simp; omega⟩
end K36

set_option maxHeartbeats 4000000
/-! sorted(d) of a dict whose keys are ints -/
namespace L2
open PySem PySem.Spec PyProof.Rows
end L2

set_option maxHeartbeats 4000000
/-! the keys of a dict, whatever they are: walked, and listed -/
namespace Dk
open PySem PySem.Spec PyProof.Rows
open Sem (wp)
section
variable {prog : Program} {w : World} {A : Around} {E : Value → Shared → Prop} {s : Shared} {d it : Addr} {es : Array DictEntry} {i ep : Nat}
end
end Dk
namespace L2
open PySem PySem.Spec PyProof.Rows
end L2

set_option maxHeartbeats 4000000
/-! {k: v}, k a tuple -/
namespace L2
open PySem PySem.Spec PyProof.Rows
end L2

set_option maxHeartbeats 4000000
/-! enumerate of a list -/
namespace L2
open PySem PySem.Spec PyProof.Rows
def Ite (K : PySem.W.Frag) (l : Addr) : It :=
  ⟨fun i H => ∃ xs x, SqL K H l xs ∧ xs[i]? = some x,
   fun i H v H' => ∃ T x, v = .ref T ∧ H T = none ∧ H' = upd H T (.tup [.int i, x]) ∧ ∀ xs, SqL K H l xs → xs[i]? = some x,
   fun i H => ∃ xs, SqL K H l xs ∧ xs.length ≤ i⟩
theorem turn_enum {P : Program} {w : World} {K : PySem.W.Frag} {es : List Expr} {kk : Nat} {tp : Pos} {e it l : Addr} (ne : e ≠ it) (nl : l ≠ e) :
    Turn P w K (.Tuple es kk tp) (Ite K l) [e, it] e (fun i h => (∃ old, IsEnum h e it i old) ∧ h.IsListIter it l i) where
  mem := by simp
  obj := fun i h st b hb => by
    obtain ⟨⟨old, a1⟩, o, a2, _, a3⟩ := st
    simp only [List.mem_cons, List.not_mem_nil, or_false] at hb
    rcases hb with rfl | rfl
    · exact ⟨_, a1, fun v q => by have q' : Data.fields _ = Data.cell v := q; cases q'⟩
    · exact ⟨o, a2, fun v z => by rw [a3] at z; cases z⟩
  keep := fun i h h' st k => by
    obtain ⟨⟨old, a1⟩, a2⟩ := st
    exact ⟨⟨old, k e (by simp) _ a1⟩, a2.at fun o q => k it (by simp) o q⟩
  item := by
    intro X hP hw hK hc i pins s σ H E I hf st hg
    subst hP hw hK
    obtain ⟨xs, x, q1, hx⟩ := hg
    obtain ⟨⟨old, a1⟩, a2⟩ := st
    obtain ⟨its, rv, p, hz⟩ := I.list q1
    obtain ⟨vx, hvx, rx⟩ := rv.get hx
    refine wpAny_pyNext_enum_item a1 a2 p.isList (x := vx) (by simpa using hvx) ne fun h' b1 b2 b3 b4 b5 => ?_
    refine ⟨_, rfl, wpAny_letOwnedTupleGo_enum b1 fun h2 c1 sb => ?_⟩
    have zT : s.heap.objs.size ≠ e := Nat.ne_of_gt (Heap.lt_size a1)
    have k2 : ∀ b o, b ∉ [e, it] → s.heap.get? b = some o → h2.get? b = some o := fun b o hb q => by
      simp only [List.mem_cons, List.not_mem_nil, or_false, not_or] at hb
      exact sb.extBut b o hb.1 (b5 b o hb.1 hb.2 q)
    have hT : IsTup h2 s.heap.objs.size ([.int i s.toks, vx] : List Value).toArray := ⟨_, sb.extBut _ _ zT b3, rfl, _, rfl⟩
    refine ⟨.ref s.heap.objs.size, upd H s.heap.objs.size (.tup [.int i, x]), I.turnedT (t' := s.toks + 1) k2 hf (Nat.le_refl _) (.cons ⟨_, rfl⟩ (.cons rx .nil)) (by show 2 ≤ sizeLine; decide) hT, rfl, ⟨_, x, rfl, I.hok.fresh (Nat.le_refl _), rfl, fun xs' h1 => ?_⟩, ⟨⟨vx, ?_⟩, ?_⟩, fun b hb => ?_⟩
    · rw [I.list_inj h1 q1]; exact hx
    · exact_mod_cast c1
    · exact b2.at fun o q => sb.extBut _ _ ne.symm q
    · have hlt : b < s.heap.objs.size := by
        simp only [List.mem_cons, List.not_mem_nil, or_false] at hb
        rcases hb with rfl | rfl
        · exact Heap.lt_size a1
        · obtain ⟨o, q, _⟩ := a2; exact Heap.lt_size q
      rw [upd_ne (Nat.ne_of_lt hlt)]
      exact (hf b hb).1
  done := by
    intro X hP hw hK hc i pins s σ H E I hf st hg
    subst hP hw hK
    obtain ⟨xs, q1, hend⟩ := hg
    obtain ⟨⟨old, a1⟩, a2⟩ := st
    obtain ⟨its, rv, p, hz⟩ := I.list q1
    have e1 := rv.length
    refine wpAny_pyNext_enum_end (I.ok.hd hc) a1 a2 p.isList (by simp; omega) fun h' eb => ⟨rfl, I.turnedL (t' := s.toks) (ch := [e, it]) (fun b o hb q => ?_) hf⟩
    simp only [List.mem_cons, List.not_mem_nil, or_false, not_or] at hb
    exact eb b o hb.2 q
  self := fun _ _ _ _ _ st h => by
    obtain ⟨⟨old, a1⟩, _⟩ := st
    exact wpAny_pyIter_enum a1 h
section
variable {X : Cx} {es : List Expr} {kk : Nat} {tp : Pos}
def iEnum (K : PySem.W.Frag) (ta : TA) : TI := fun σ H R => ta σ H fun vs H1 => ∃ l xs, vs = [.ref l] ∧ SqL K H1 l xs ∧ R (Ite K l) H1
theorem pi_enum {a : Expr} {ta : TA} {p pos : Pos} (hg : Gl X "enumerate") (hm : X.mg "enumerate" = none) (ha : PA X [a] ta) (hs : starEach [a] X.env = [(false, eval a X.env)] := by rfl) :
    PI X (.Tuple es kk tp) (.Call (.Name "enumerate" p) [a] [] pos) (iEnum X.K ta) := by
  intro pins s σ H R I h
  refine Call_ (ld_blt I hg hm boot_enumerate (PyProof.Rows.callWith_type1 (thn (ha pos pins s σ H _ I h) fun us s1 ⟨vs, H1, I1, r1, q1⟩ => ?_) (by rw [hs]; rfl) (by rfl)))
  obtain ⟨l, xs, e, h1, q⟩ := q1
  subst e
  cases r1 with
  | cons r rr =>
    cases rr
    cases r
    obtain ⟨its, rv, pl, hz⟩ := I1.list h1
    refine call_enumerate_list pl.isList fun h' z1 z2 z3 zk => ?_
    have I2 : Inv X pins σ H1 { s1 with heap := h' } := I1.kept (t' := s1.toks) zk
    have lt1 : l < s1.heap.objs.size := by obtain ⟨o, q, _⟩ := pl.isList; exact Heap.lt_size q
    refine wpAny_pyIter_enum z1 ⟨_, [s1.heap.objs.size + 1, s1.heap.objs.size], _, _, H1, rfl, I2, turn_enum (Nat.succ_ne_self _) (Nat.ne_of_lt (Nat.lt_succ_of_lt lt1)), ⟨⟨_, z1⟩, z2⟩, fun b hb => ?_, q⟩
    have hge : s1.heap.objs.size ≤ b := by
      simp only [List.mem_cons, List.not_mem_nil, or_false] at hb
      rcases hb with rfl | rfl
      · exact Nat.le_succ _
      · exact Nat.le_refl _
    exact I1.fpOk hge (I1.hok.fresh hge)
end
end L2

set_option maxHeartbeats 4000000
/-! sums, blocks over enumerate, blocks with a test over a list -/
namespace L2
open PySem PySem.Spec PyProof.Rows
theorem lcF_ints {K : PySem.W.Frag} {l : Addr} {ns : List Int} {tc : TT} {te : TE} {fr : St} {H1 : Hp} {acc : Addr} {Q : VK} (p : Int → Bool) (f : Int → Int) (hn : ns.length ≤ sizeLine) (hacc : H1 acc = none) (hl : SqL K H1 l (ns.map V.int))
    (hs : ∀ n H (N : Bool → Hp → Prop), n ∈ ns → Same H1 H → N (p n) H → tc (some (.int n) :: fr) H N)
    (ht : ∀ n H (N : V → Hp → Prop), n ∈ ns → p n = true → Same H1 H → N (.int (f n)) H → te (some (.int n) :: fr) H N)
    (hd : ∀ H2, Same H1 H2 → H2 acc = some (.lst (((ns.filter p).map f).map V.int)) → Q (.ref acc) H2) : LcWF (Itl K l) (gName 0) tc te (none :: fr) H1 acc Q := by
  refine ⟨fun i m zs σ2 H2 => m = ns.length - i ∧ i ≤ ns.length ∧ (∃ v, σ2 = v :: fr) ∧ Same H1 H2 ∧ H2 acc = some (.lst zs) ∧ zs = (((ns.take i).filter p).map f).map V.int, ⟨ns.length, by simp, Nat.zero_le _, ⟨_, rfl⟩, same_new hacc _, upd_same, by simp⟩, ?_⟩
  rintro i m zs σ2 H2 ⟨rfl, hi, ⟨v, rfl⟩, s2, a2, e2⟩
  by_cases hlt : i < ns.length
  · have e1 : ns[i]? = some ns[i] := by simp [hlt]
    have e3 : (ns.map V.int)[i]? = some (.int ns[i]) := by rw [List.getElem?_map, e1]; rfl
    have zl : zs.length ≤ i := by
      rw [e2, List.length_map, List.length_map]
      exact Nat.le_trans (List.length_filter_le _ _) (by rw [List.length_take]; omega)
    have mem : ns[i] ∈ ns := List.getElem_mem hlt
    refine .inr ⟨⟨_, _, s2.seq hl, e3⟩, fun u H3 y3 => ?_⟩
    obtain ⟨rfl, y4⟩ := y3
    have := y4 _ (s2.seq hl)
    rw [e3] at this
    cases this
    refine hs ns[i] _ _ mem s2 ⟨fun hp => ht ns[i] _ _ mem hp s2 ⟨a2, by omega, ns.length - (i + 1), by omega, rfl, hlt, ⟨_, rfl⟩, same_upd s2 hacc, upd_same, ?_⟩, fun hp => ⟨ns.length - (i + 1), by omega, rfl, hlt, ⟨_, rfl⟩, s2, a2, ?_⟩⟩
    · rw [List.take_add_one, e1, Option.toList_some, List.filter_append, List.map_append, List.map_append, e2]
      simp [hp]
    · rw [List.take_add_one, e1, Option.toList_some, List.filter_append, List.map_append, List.map_append, e2]
      simp [hp]
  · have e : i = ns.length := by omega
    subst e
    exact .inl ⟨⟨_, s2.seq hl, by rw [List.length_map]; exact Nat.le_refl _⟩, hd H2 s2 (by rw [a2, e2, List.take_length])⟩
end L2

set_option maxHeartbeats 4000000
namespace K36
open PySem PySem.Spec PyProof.Rows L2 Am Pc Ba
theorem or_i (x y : Nat) : Builtin.bitOr (x : Int) (y : Int) = ((x ||| y : Nat) : Int) := by
  have h : Builtin.bitXor (x : Int) (y : Int) = Builtin.bitOr x y - Builtin.bitAnd x y := rfl
  rw [xor_i, and_i] at h
  have e := or_eq (x + y + 1) x y (by omega) (by omega)
  omega
theorem lc_enumP {K : PySem.W.Frag} {l : Addr} {g : TG} {xs : List V} {te : TE} {fr : L2.St} {H1 : Hp} {acc : Addr} {Q : VK} (Pv : Nat → List V → Hp → Prop) (hn : xs.length ≤ sizeLine) (h0 : Pv 0 [] (upd H1 acc (.lst [])))
    (hl : ∀ i ys H, Pv i ys H → SqL K H l xs)
    (hg : ∀ {a : Addr} {x y : V} {w1 w2 : Option V} {H : Hp} {Q : L2.St → Hp → Prop}, H a = some (.tup [x, y]) → Q (some x :: some y :: fr) H → g (.ref a) (w1 :: w2 :: fr) H Q)
    (hs : ∀ i x ys H (T : Addr) (N : V → Hp → Prop), xs[i]? = some x → ys.length = i → Pv i ys H → H T = none → (∀ y H5, H5 acc = some (.lst ys) → Pv (i + 1) (ys ++ [y]) (upd H5 acc (.lst (ys ++ [y]))) → N y H5) → te (some (.int i) :: some x :: fr) (upd H T (.tup [.int i, x])) N)
    (hd : ∀ ys H, ys.length = xs.length → Pv xs.length ys H → Q (.ref acc) H) : LcW (Ite K l) g te (none :: none :: fr) H1 acc Q := by
  refine ⟨fun i m zs σ2 H2 => m = xs.length - i ∧ i ≤ xs.length ∧ zs.length = i ∧ (∃ v w, σ2 = v :: w :: fr) ∧ Pv i zs H2, ⟨xs.length, by simp, Nat.zero_le _, rfl, ⟨_, _, rfl⟩, h0⟩, ?_⟩
  rintro i m zs σ2 H2 ⟨rfl, hi, zl, ⟨v, w, rfl⟩, p⟩
  have sl := hl i zs H2 p
  by_cases hlt : i < xs.length
  · have e1 : xs[i]? = some xs[i] := by simp [hlt]
    refine .inr ⟨⟨xs, _, sl, e1⟩, fun u H3 y3 => ?_⟩
    obtain ⟨T, x, rfl, hT, rfl, h1⟩ := y3
    have hx := h1 xs sl
    refine hg (x := .int i) (y := x) upd_same (hs i x zs H2 T _ hx zl p hT fun y H5 a5 p5 => ⟨a5, by omega, xs.length - (i + 1), by omega, rfl, hlt, by simp [zl], ⟨_, _, rfl⟩, p5⟩)
  · have e : i = xs.length := by omega
    subst e
    exact .inl ⟨⟨xs, sl, Nat.le_refl _⟩, hd zs H2 zl p⟩
def spExch : Sp := fun vs H Q _ => ∃ w a b : Nat, vs = [.int w, .int ((2 ^ a : Nat) : Int), .int ((2 ^ b : Nat) : Int)] ∧ ∀ H', Same H H' → Q (.int (exch w a b : Nat)) H'
def spBehind : Sp := fun vs H Q _ => ∃ (w : Nat) (p : Addr) (v : Mv) (c : Nat), vs = [.int w, .ref p] ∧ H p = some (MvT v.nm v.ns) ∧ v.Ok c ∧ c ≤ 6 ∧ v.nm ≠ "turn" ∧ v.nm ≠ "pair" ∧ ∀ H', Same H H' → Q (.int (v.to w : Nat)) H'
structure Bo (K : PySem.W.Frag) (H : Hp) (l : Addr) (ps : List Addr) (f : Nat → A5) (c : Nat) : Prop where
  lst : H l = some (.lst (ps.map V.ref))
  len : ps.length = 2 ^ c
  vals : ValsK K H ps f
theorem Bo.same {K : PySem.W.Frag} {H H' : Hp} {l : Addr} {ps : List Addr} {f : Nat → A5} {c : Nat} (b : Bo K H l ps f c) (s : Same H H') : Bo K H' l ps f c := ⟨s _ _ b.lst, b.len, b.vals.same s⟩
theorem Bo.at {K : PySem.W.Frag} {H : Hp} {l : Addr} {ps : List Addr} {f : Nat → A5} {c i : Nat} (b : Bo K H l ps f c) (hi : i < 2 ^ c) : ∃ p, ps[i]? = some p ∧ At5 K H p (f i) ∧ atI (ps.map V.ref) (i : Int) = some (.ref p) := by
  have hl : i < ps.length := by rw [b.len]; exact hi
  refine ⟨ps[i], List.getElem?_eq_getElem hl, b.vals i _ (List.getElem?_eq_getElem hl), atI_nat (by rw [List.getElem?_map, List.getElem?_eq_getElem hl]; rfl)⟩
def spWhereK (K : PySem.W.Frag) : Sp := fun vs H Q _ => ∃ (l : Addr) (ps : List Addr) (f : Nat → A5) (c bits : Nat) (k : Int), vs = [.ref l, .int bits, .int k] ∧ Bo K H l ps f c ∧ c ≤ 6 ∧
  ∀ (r : Addr) (H' : Hp) (qs : List Addr) (g : Nat → A5), H r = none → Same H H' → Bo K H' r qs g c → (∀ w, w < 2 ^ c → g w = if w &&& bits = bits then spin (f w) k else f w) → Q (.ref r) H'
theorem inV2 (x a b : Int) : inV (.int x) [.int a, .int b] = (decide (a = x) || decide (b = x)) := by
  unfold inV
  simp only [List.any_cons, List.any_nil, Bool.or_false, eqV]
  rfl
section
variable {P : Program} {w : World} {K : PySem.W.Frag} {mg : Str → Option Value} {base : Heap} {k : Nat} {h : Heap}
theorem sc_exch : FnScope ["word", "bit", "other", "both"] ["word", "bit", "other"] (defScope (top 41)) := ⟨rfl, rfl, rfl, by decide +kernel, rfl, by decide +kernel, by decide +kernel⟩
theorem ok_exch (F : FunAt K "exchanged" (top 41) .none) (X : K.In h) (G : h.Ns mainGlobals mg) : Cal P w K mg base (k + 1) "exchanged" ["word", "bit", "other"] spExch := by
  have nd := sc_exch.nd
  refine F.cal X G sc_exch (bnd3 fun _ _ _ _ _ _ _ _ _ => rfl) (fun vs H Q E h => ?_) (fun f cdv A outer s H vs Q E hr h => ?_)
  · obtain ⟨w, a, b, rfl, _⟩ := h; rfl
  obtain ⟨x, a, b, rfl, q⟩ := h
  refine ⟨_, (@pss_cons _ _ _ _ _ (@ps_set _ _ 3 _ _ _ _ nd rfl (Or.inl rfl) (pe_op op_or (pv 1) (pv 2)) rfl (.inl rfl))
    (@pss_one _ _ _ (ps_ret (pe_ifExp (pt_cmpR op_in_seq (pe_op op_and (pv 0) (pv 3)) (@pe_tup _ _ _ _ _ (pa_cons (pv 1) (pa_cons (pv 2) pa_nil))) rfl) (pe_op op_xor (pv 0) (pv 3)) (pv 0))))), ?_⟩
  try dsimp only [cxK]
  refine ⟨_, rfl, _, rfl, _, _, rfl, rfl, ?_⟩
  refine ⟨_, rfl, _, rfl, _, _, rfl, rfl, _, rfl, _, rfl, t2, fun tp htp => ?_⟩
  refine ⟨tp, _, rfl, .inr (SqT.of upd_same), rfl, rfl, _, rfl, ?_⟩
  have s1 := same_new htp (.tup [.int ((2 ^ a : Nat) : Int), .int ((2 ^ b : Nat) : Int)])
  have q1 := q _ s1
  unfold exch at q1
  show if (inV (.int (Builtin.bitAnd (x : Int) (Builtin.bitOr ((2 ^ a : Nat) : Int) ((2 ^ b : Nat) : Int)))) [.int ((2 ^ a : Nat) : Int), .int ((2 ^ b : Nat) : Int)]) = true then _ else _
  rw [or_i, and_i, inV2]
  by_cases c : x &&& (2 ^ a ||| 2 ^ b) = 2 ^ a ∨ x &&& (2 ^ a ||| 2 ^ b) = 2 ^ b
  · rw [if_pos (by rw [Bool.or_eq_true, decide_eq_true_eq, decide_eq_true_eq]; omega)]
    rw [if_pos c] at q1
    refine ⟨_, rfl, _, rfl, _, _, rfl, rfl, ?_⟩
    show Q (.int (Builtin.bitXor (x : Int) (Builtin.bitOr ((2 ^ a : Nat) : Int) ((2 ^ b : Nat) : Int)))) _
    rw [or_i, xor_i]
    exact q1
  · rw [if_neg (by rw [Bool.or_eq_true, decide_eq_true_eq, decide_eq_true_eq]; omega)]
    rw [if_neg c] at q1
    exact ⟨_, rfl, q1⟩
theorem sc_behind : FnScope ["word", "move", "bits"] ["word", "move"] (defScope (top 40)) := ⟨rfl, rfl, rfl, by decide +kernel, rfl, by decide +kernel, by decide +kernel⟩
theorem ok_behind (F : FunAt K "word_behind" (top 40) .none) (X : K.In h) (G : h.Ns mainGlobals mg) (c_named_cells : Cal P w K mg base k "named_cells" ["move"] spNamed) (c_exchanged : Cal P w K mg base k "exchanged" ["word", "bit", "other"] spExch) :
    Cal P w K mg base (k + 1) "word_behind" ["word", "move"] spBehind := by
  have nd := sc_behind.nd
  refine F.cal X G sc_behind (bnd2 fun _ _ _ _ _ _ _ _ => rfl) (fun vs H Q E h => ?_) (fun f cdv A outer s H vs Q E hr h => ?_)
  · obtain ⟨w, p, v, c, rfl, _⟩ := h; rfl
  obtain ⟨x, p, v, c, rfl, hp, ok, c6, nt, np, q⟩ := h
  have FI := Mv.fits ok
  have en : named v.nm v.ns = v.ns := by unfold named; rw [if_neg nt]
  have hlen : v.ns.length ≤ 3 := FI.form.len
  have low : ∀ a ∈ v.ns, 0 ≤ a ∧ a < 6 := fun a ha => by
    have := FI.low a (by rw [en]; exact ha)
    omega
  refine ⟨_, (@pss_cons _ _ _ _ _ (ps_setLc (i := 2) rfl nd rfl rfl (LcOk.of (Nc := ["cell"]) (mp := [none]) (by kernel_rfl)) (pi_tup (pe_cal c_named_cells hr rfl (pa_cons (pv 1) pa_nil))) (fun _ _ _ _ => (pg_name (i := 0) (show (["cell"] : List Str).Nodup by decide +kernel) rfl (Or.inl rfl))) (fun _ _ _ _ => (pe_op op_shlS pe_int (pv 0))) rfl)
    (@pss_cons _ _ _ _ _ (ps_if (pt_cmpR op_eq (pe_ix ix_tup (pv 1) pe_int (fun _ _ => rfl)) pe_str (nomark _))
      (@pss_one _ _ _ (ps_ret (pe_op op_xor (pv 0) (pe_ix ix_list (pv 2) pe_int (fun _ _ => rfl)))))
      pss_nil)
    (@pss_cons _ _ _ _ _ (ps_if (pt_cmpR op_eq (pe_ix ix_tup (pv 1) pe_int (fun _ _ => rfl)) pe_str (nomark _))
      (@pss_one _ _ _ (ps_ret (pe_cal c_exchanged hr rfl (pa_cons (pv 0) (pa_cons (pe_ix ix_list (pv 2) pe_int (fun _ _ => rfl)) (pa_cons (pe_ix ix_list (pv 2) pe_int (fun _ _ => rfl)) pa_nil))))))
      pss_nil)
    (@pss_cons _ _ _ _ _ (ps_if (pt_not (pt_truI (pe_op op_and (pv 0) (pe_ix ix_list (pv 2) pe_int (fun _ _ => rfl))) (by intro _; rfl)))
      (@pss_one _ _ _ (ps_ret (pv 0)))
      pss_nil)
    (@pss_cons _ _ _ _ _ (ps_if (pt_cmpR op_eq (pe_ix ix_tup (pv 1) pe_int (fun _ _ => rfl)) pe_str (nomark _))
      (@pss_one _ _ _ (ps_ret (pe_op op_xor (pv 0) (pe_ix ix_list (pv 2) pe_int (fun _ _ => rfl)))))
      pss_nil)
    (@pss_one _ _ _ (ps_ret (pe_cal c_exchanged hr rfl (pa_cons (pv 0) (pa_cons (pe_ix ix_list (pv 2) pe_int (fun _ _ => rfl)) (pa_cons (pe_ix ix_list (pv 2) pe_int (fun _ _ => rfl)) pa_nil))))))))))), ?_⟩
  try dsimp only [cxK]
  refine ⟨_, rfl, p, v.nm, v.ns, rfl, hp, FI.form, fun r H1 S1 hr => ?_⟩
  rw [en] at hr
  refine ⟨r, rfl, ⟨_, SqT.of hr⟩, fun acc hacc => ?_⟩
  refine lc_tupM (K := K) (fun n => .int (1 * 2 ^ n.toNat)) (SqT.of hr) (t64 (by omega)) hacc (fun n H2 N hn S2 kN => ⟨_, rfl, _, _, rfl, rfl, ⟨1, sz1, (low n hn).1, by have := (low n hn).2; omega⟩, kN⟩) (fun H3 S3 a3 => ?_)
  have S03 := S1.trans S3
  have q3 := q H3 S03
  have SP : SqT K H3 p (.str v.nm :: v.ns.map V.int) := SqT.of (S03 _ _ hp)
  have SL : SqL K H3 acc (v.ns.map fun n => V.int (1 * 2 ^ n.toNat)) := SqL.of a3
  have ip : ∀ a : Nat, (1 : Int) * 2 ^ ((a : Int)).toNat = ((2 ^ a : Nat) : Int) := fun a => ipow a
  cases v with
  | flip a =>
    refine ⟨_, rfl, p, _, _, .str "flip", rfl, rfl, SP, at0, rfl, _, rfl, decI (fun _ => ?_) (fun z => absurd rfl z)⟩
    refine ⟨_, rfl, _, rfl, acc, _, _, .int (1 * 2 ^ ((a : Int)).toNat), rfl, rfl, SL, rfl, _, _, rfl, rfl, ?_⟩
    show Q (.int (Builtin.bitXor (x : Int) (1 * 2 ^ ((a : Int)).toNat))) H3
    rw [ip, xor_i]
    exact q3
  | turn a k => exact absurd rfl nt
  | pair a b => exact absurd rfl np
  | swap a b =>
    refine ⟨_, rfl, p, _, _, .str "swap", rfl, rfl, SP, at0, rfl, _, rfl, decI (fun z => absurd (V.str.inj z) (by decide +kernel)) (fun _ => ?_)⟩
    refine ⟨_, rfl, p, _, _, .str "swap", rfl, rfl, SP, at0, rfl, _, rfl, decI (fun _ => ?_) (fun z => absurd rfl z)⟩
    refine ⟨_, rfl, _, rfl, acc, _, _, .int (1 * 2 ^ ((a : Int)).toNat), rfl, rfl, SL, rfl, _, rfl, acc, _, _, .int (1 * 2 ^ ((b : Int)).toNat), rfl, rfl, SL, rfl, ?_⟩
    exact ⟨x, a, b, by show [V.int (x : Int), V.int (1 * 2 ^ ((a : Int)).toNat), V.int (1 * 2 ^ ((b : Int)).toNat)] = _; rw [ip, ip], fun H4 S4 => q H4 (S03.trans S4)⟩
  | iff a b =>
    refine ⟨_, rfl, p, _, _, .str "if", rfl, rfl, SP, at0, rfl, _, rfl, decI (fun z => absurd (V.str.inj z) (by decide +kernel)) (fun _ => ?_)⟩
    refine ⟨_, rfl, p, _, _, .str "if", rfl, rfl, SP, at0, rfl, _, rfl, decI (fun z => absurd (V.str.inj z) (by decide +kernel)) (fun _ => ?_)⟩
    refine ⟨_, rfl, _, rfl, acc, _, _, .int (1 * 2 ^ ((a : Int)).toNat), rfl, rfl, SL, rfl, _, _, rfl, rfl, _, rfl, ?_⟩
    rw [ip, and_i]
    have q4 : Q (.int ((if x &&& 2 ^ a = 0 then x else x ^^^ 2 ^ b : Nat) : Int)) H3 := q3
    by_cases e : x &&& 2 ^ a = 0
    · rw [if_pos e] at q4
      rw [e]
      exact iteT ⟨_, rfl, q4⟩
    · rw [if_neg e] at q4
      rw [show ((((x &&& 2 ^ a : Nat) : Int) != 0) = true) by simpa using e]
      refine iteF ⟨_, rfl, p, _, _, .str "if", rfl, rfl, SP, at0, rfl, _, rfl, decI (fun _ => ?_) (fun z => absurd rfl z)⟩
      refine ⟨_, rfl, _, rfl, acc, _, _, .int (1 * 2 ^ ((b : Int)).toNat), rfl, rfl, SL, rfl, _, _, rfl, rfl, ?_⟩
      show Q (.int (Builtin.bitXor (x : Int) (1 * 2 ^ ((b : Int)).toNat))) H3
      rw [ip, xor_i]
      exact q4
  | cross a b d =>
    refine ⟨_, rfl, p, _, _, .str "cross", rfl, rfl, SP, at0, rfl, _, rfl, decI (fun z => absurd (V.str.inj z) (by decide +kernel)) (fun _ => ?_)⟩
    refine ⟨_, rfl, p, _, _, .str "cross", rfl, rfl, SP, at0, rfl, _, rfl, decI (fun z => absurd (V.str.inj z) (by decide +kernel)) (fun _ => ?_)⟩
    refine ⟨_, rfl, _, rfl, acc, _, _, .int (1 * 2 ^ ((a : Int)).toNat), rfl, rfl, SL, rfl, _, _, rfl, rfl, _, rfl, ?_⟩
    rw [ip, and_i]
    have q4 : ∀ H', Same H H' → Q (.int ((if x &&& 2 ^ a = 0 then x else exch x b d : Nat) : Int)) H' := q
    by_cases e : x &&& 2 ^ a = 0
    · rw [if_pos e] at q4
      rw [e]
      exact iteT ⟨_, rfl, q4 _ S03⟩
    · rw [if_neg e] at q4
      rw [show ((((x &&& 2 ^ a : Nat) : Int) != 0) = true) by simpa using e]
      refine iteF ⟨_, rfl, p, _, _, .str "cross", rfl, rfl, SP, at0, rfl, _, rfl, decI (fun z => absurd (V.str.inj z) (by decide +kernel)) (fun _ => ?_)⟩
      refine ⟨_, rfl, _, rfl, acc, _, _, .int (1 * 2 ^ ((b : Int)).toNat), rfl, rfl, SL, rfl, _, rfl, acc, _, _, .int (1 * 2 ^ ((d : Int)).toNat), rfl, rfl, SL, rfl, ?_⟩
      exact ⟨x, b, d, by show [V.int (x : Int), V.int (1 * 2 ^ ((b : Int)).toNat), V.int (1 * 2 ^ ((d : Int)).toNat)] = _; rw [ip, ip], fun H4 S4 => q4 H4 (S03.trans S4)⟩
end
end K36

set_option maxHeartbeats 4000000
namespace K36
open PySem PySem.Spec PyProof.Rows L2 Am Pc Ba
theorem not_mix (v : Mv) : v.nm ≠ "mix" := by
  cases v with
  | flip a => exact (show ("flip" : Str) ≠ "mix" by decide +kernel)
  | turn a k => exact (show ("turn" : Str) ≠ "mix" by decide +kernel)
  | iff a b => exact (show ("if" : Str) ≠ "mix" by decide +kernel)
  | pair a b => exact (show ("pair" : Str) ≠ "mix" by decide +kernel)
  | swap a b => exact (show ("swap" : Str) ≠ "mix" by decide +kernel)
  | cross a b d => exact (show ("cross" : Str) ≠ "mix" by decide +kernel)
theorem nm_turn {v : Mv} (h : v.nm = "turn") : ∃ a k, v = .turn a k := by
  cases v with
  | flip a => exact absurd h (show ("flip" : Str) ≠ "turn" by decide +kernel)
  | turn a k => exact ⟨a, k, rfl⟩
  | iff a b => exact absurd h (show ("if" : Str) ≠ "turn" by decide +kernel)
  | pair a b => exact absurd h (show ("pair" : Str) ≠ "turn" by decide +kernel)
  | swap a b => exact absurd h (show ("swap" : Str) ≠ "turn" by decide +kernel)
  | cross a b d => exact absurd h (show ("cross" : Str) ≠ "turn" by decide +kernel)
theorem nm_pair {v : Mv} (h : v.nm = "pair") : ∃ a b, v = .pair a b := by
  cases v with
  | flip a => exact absurd h (show ("flip" : Str) ≠ "pair" by decide +kernel)
  | turn a k => exact absurd h (show ("turn" : Str) ≠ "pair" by decide +kernel)
  | iff a b => exact absurd h (show ("if" : Str) ≠ "pair" by decide +kernel)
  | pair a b => exact ⟨a, b, rfl⟩
  | swap a b => exact absurd h (show ("swap" : Str) ≠ "pair" by decide +kernel)
  | cross a b d => exact absurd h (show ("cross" : Str) ≠ "pair" by decide +kernel)
theorem sp_none {v : Mv} (h : v.nm ≠ "turn") (h' : v.nm ≠ "pair") (w : Nat) : v.sp w = 0 := by
  cases v with
  | turn a k => exact absurd rfl h
  | pair a b => exact absurd rfl h'
  | flip a => rfl
  | iff a b => rfl
  | swap a b => rfl
  | cross a b d => rfl
section
variable {P : Program} {w : World} {K : PySem.W.Frag} {mg : Str → Option Value} {base : Heap} {k : Nat} {h : Heap}
theorem sc_where : FnScope ["board", "bits", "k"] ["board", "bits", "k"] (defScope (top 39)) := ⟨rfl, rfl, rfl, by decide +kernel, rfl, by decide +kernel, by decide +kernel⟩
theorem ok_where (F : FunAt K "spun_where" (top 39) .none) (X : K.In h) (G : h.Ns mainGlobals mg) (B : Bs mg) (c_spun : Cal P w K mg base k "spun" ["one", "k"] (spSpunK K)) : Cal P w K mg base (k + 1) "spun_where" ["board", "bits", "k"] (spWhereK K) := by
  have nd := sc_where.nd
  refine F.cal X G sc_where (bnd3 fun _ _ _ _ _ _ _ _ _ => rfl) (fun vs H Q E h => ?_) (fun f cdv A outer s H vs Q E hr h => ?_)
  · obtain ⟨l, ps, f, c, bits, k, rfl, _⟩ := h; rfl
  obtain ⟨l, ps, g, c, bits, kk, rfl, BO, c6, kq⟩ := h
  have p6 := pow6 c6
  have SL : SqL K H l (ps.map V.ref) := SqL.of BO.lst
  have lps : (ps.map V.ref).length = 2 ^ c := by rw [List.length_map, BO.len]
  refine ⟨_, (@pss_one _ _ _ (ps_ret (pe_lc rfl (LcOk.of (Nc := ["word", "one", "bits", "k"]) (mp := [none, none, some 1, some 2]) (by kernel_rfl)) (pi_enum rfl B.enumerate (pa_cons (pv 0) pa_nil)) (fun _ _ _ _ => (pg_pairC rfl (show (["word", "one", "bits", "k"] : List Str).Nodup by decide +kernel) rfl rfl rfl rfl)) (fun _ _ _ _ => (pe_ifExp (pt_cmpR op_eq (pe_op op_and (pv 0) (pv 2)) (pv 2) (nomark _)) (pe_cal c_spun hr rfl (pa_cons (pv 1) (pa_cons (pv 3) pa_nil))) (pv 1)))))), ?_⟩
  try dsimp only [cxK]
  refine ⟨_, rfl, l, _, rfl, SL, fun acc hacc => ?_⟩
  refine lc_enumP (K := K) (l := l) (xs := ps.map V.ref) (fr := [some (.int bits), some (.int kk)]) (fun i ys H' => ∃ (qs : List Addr) (y : Nat → A5), Same H H' ∧ H' acc = some (.lst ys) ∧ ys = qs.map V.ref ∧ qs.length = i ∧ ValsK K H' qs y ∧ ∀ j, j < i → y j = if j &&& bits = bits then spin (g j) kk else g j) (by rw [lps]; exact t64 p6)
    ⟨[], fun _ => ((0, 0, 0, 0), 0), same_new hacc _, upd_same, rfl, rfl, (fun _ _ z => by cases z), fun j hj => absurd hj (Nat.not_lt_zero _)⟩ (fun i ys H' p => by obtain ⟨qs, y, s2, _⟩ := p; exact SqL.of (s2 _ _ BO.lst)) (fun h q => ⟨_, _, rfl, SqT.of h, rfl, _, _, rfl, _, _, rfl, rfl, q⟩) ?_ ?_
  · rintro i x ys H2 T N hx hy ⟨qs, y, S2, a2, rfl, ql, v2, ok2⟩ hT kN
    rw [List.getElem?_map] at hx
    obtain ⟨p, hp, rfl⟩ := Option.map_eq_some_iff.mp hx
    have pg := (BO.vals i p hp).same S2
    have sT := same_new hT (.tup [.int i, .ref p])
    have fin : ∀ (r : Addr) (H5 : Hp) (z : A5), Same (upd H2 T (.tup [.int i, .ref p])) H5 → At5 K H5 r z → z = (if i &&& bits = bits then spin (g i) kk else g i) → N (.ref r) H5 := fun r H5 z S5 hr hz => by
      have S25 := sT.trans S5
      refine kN (.ref r) H5 (S25 _ _ a2) ⟨qs ++ [r], fun j => if j = qs.length then z else y j, same_upd (S2.trans S25) hacc, upd_same, by rw [List.map_append]; rfl, by simp [ql], vals_upd (xs := qs.map V.ref) (vals_push v2 S25 hr) (S25 _ _ a2), fun j hj => ?_⟩
      show (if j = qs.length then z else y j) = _
      by_cases e : j = qs.length
      · rw [if_pos e, hz, e, ql]
      · rw [if_neg e]
        exact ok2 j (by omega)
    refine ⟨_, rfl, _, rfl, _, _, rfl, rfl, _, rfl, rfl, _, rfl, ?_⟩
    show if decide (V.int (Builtin.bitAnd (i : Int) (bits : Int)) = V.int (bits : Int)) = true then _ else _
    rw [and_i]
    by_cases e : i &&& bits = bits
    · rw [decide_eq_true (by rw [e])]
      refine iteT ⟨_, rfl, _, rfl, p, _, _, _, _, _, _, rfl, pg.same sT, fun r H5 S5 hr => fin r H5 (spin (g i) kk) S5 hr (by rw [if_pos e])⟩
    · rw [decide_eq_false (fun z => e (by have := V.int.inj z; omega))]
      exact iteF ⟨_, rfl, fin p _ (g i) (Same.refl _) (pg.same sT) (by rw [if_neg e])⟩
  · rintro ys H2 hy ⟨qs, y, S2, a2, rfl, ql, v2, ok2⟩
    rw [lps] at ql ok2
    exact kq acc H2 qs y hacc S2 ⟨a2, ql, v2⟩ ok2
end
end K36

set_option maxHeartbeats 4000000
namespace K36
open PySem PySem.Spec PyProof.Rows L2 Am Pc Ba
def wOk (c a w : Nat) : Bool := decide (w &&& 2 ^ a = 0) == decide (w / 2 ^ a % 2 = 0) && if w / 2 ^ a % 2 = 0 then decide ((w ||| 2 ^ a) = w + 2 ^ a) && decide (w + 2 ^ a < 2 ^ c) && decide ((w + 2 ^ a) / 2 ^ a % 2 = 1) else decide ((w ^^^ 2 ^ a) = w - 2 ^ a) && decide (2 ^ a ≤ w) && decide ((w - 2 ^ a) / 2 ^ a % 2 = 0)
theorem wok_all : ((List.range 7).all fun c => (List.range c).all fun a => (List.range (2 ^ c)).all fun w => wOk c a w) = true := by decide +kernel
theorem wok {c a w : Nat} (hc : c ≤ 6) (ha : a < c) (hw : w < 2 ^ c) : wOk c a w = true :=
  List.all_eq_true.mp (List.all_eq_true.mp (List.all_eq_true.mp wok_all c (List.mem_range.mpr (by omega))) a (List.mem_range.mpr ha)) w (List.mem_range.mpr hw)
theorem w_low {c a w : Nat} (hc : c ≤ 6) (ha : a < c) (hw : w < 2 ^ c) (h : w / 2 ^ a % 2 = 0) : w &&& 2 ^ a = 0 ∧ (w ||| 2 ^ a) = w + 2 ^ a ∧ w + 2 ^ a < 2 ^ c ∧ (w + 2 ^ a) / 2 ^ a % 2 = 1 := by
  have := wok hc ha hw
  unfold wOk at this
  rw [if_pos h, decide_eq_true h] at this
  simpa [and_assoc] using this
theorem w_high {c a w : Nat} (hc : c ≤ 6) (ha : a < c) (hw : w < 2 ^ c) (h : ¬ w / 2 ^ a % 2 = 0) : w &&& 2 ^ a ≠ 0 ∧ (w ^^^ 2 ^ a) = w - 2 ^ a ∧ 2 ^ a ≤ w ∧ (w - 2 ^ a) / 2 ^ a % 2 = 0 := by
  have := wok hc ha hw
  unfold wOk at this
  rw [if_neg h, decide_eq_false h] at this
  simpa [and_assoc] using this
structure Mix (s : Int) (x y z : A5) : Prop where
  ex : ∃ p : A5, Sum x.1.1 x.1.2.1 x.1.2.2.1 x.1.2.2.2 x.2 (s * y.1.1) (s * y.1.2.1) (s * y.1.2.2.1) (s * y.1.2.2.2) y.2 p.1.1 p.1.2.1 p.1.2.2.1 p.1.2.2.2 p.2 ∧
    Amt z.1.1 z.1.2.1 z.1.2.2.1 z.1.2.2.2 z.2 ∧ Same4 (p.1.2.1 - p.1.2.2.2) (p.1.1 + p.1.2.2.1) (p.1.2.1 + p.1.2.2.2) (p.1.2.2.1 - p.1.1) (p.2 + 1) z.1.1 z.1.2.1 z.1.2.2.1 z.1.2.2.2 z.2
def MixAt (f : Nat → A5) (a w : Nat) (z : A5) : Prop := if w / 2 ^ a % 2 = 0 then Mix 1 (f w) (f (w + 2 ^ a)) z else Mix (-1) (f (w - 2 ^ a)) (f w) z
structure Bd5 (K : PySem.W.Frag) (H : Hp) (l : Addr) (ps : List Addr) (f : Nat → A5) (c n m : Nat) : Prop where
  lst : H l = some (.lst (ps.map V.ref))
  len : ps.length = 2 ^ c
  vals : ValsK K H ps f
  ok : ∀ i, i < 2 ^ c → Ok5 n m (f i)
theorem Bd5.same {K : PySem.W.Frag} {H H' : Hp} {l : Addr} {ps : List Addr} {f : Nat → A5} {c n m : Nat} (b : Bd5 K H l ps f c n m) (s : Same H H') : Bd5 K H' l ps f c n m := ⟨s _ _ b.lst, b.len, b.vals.same s, b.ok⟩
theorem Bd5.at {K : PySem.W.Frag} {H : Hp} {l : Addr} {ps : List Addr} {f : Nat → A5} {c n m i : Nat} (b : Bd5 K H l ps f c n m) (hi : i < 2 ^ c) : ∃ p, ps[i]? = some p ∧ At5 K H p (f i) ∧ atI (ps.map V.ref) (i : Int) = some (.ref p) := by
  have hl : i < ps.length := by rw [b.len]; exact hi
  refine ⟨ps[i], List.getElem?_eq_getElem hl, b.vals i _ (List.getElem?_eq_getElem hl), atI_nat (by rw [List.getElem?_map, List.getElem?_eq_getElem hl]; rfl)⟩
def spMixedAtK (K : PySem.W.Frag) : Sp := fun vs H Q _ => ∃ (l : Addr) (ps : List Addr) (f : Nat → A5) (c n m a wd : Nat), vs = [.ref l, .int wd, .int ((2 ^ a : Nat) : Int)] ∧ Bd5 K H l ps f c n m ∧ c ≤ 6 ∧ a < c ∧ wd < 2 ^ c ∧ n ≤ 450000 ∧ m ≤ 10000 ∧
  ∀ (r : Addr) (H' : Hp) (z : A5), Same H H' → H' r = some (tA z) → Ok5 (n + 2 * m + 3) (m + 1 : Nat) z → MixAt f a wd z → Q (.ref r) H'
def spMixedK (K : PySem.W.Frag) : Sp := fun vs H Q _ => ∃ (l : Addr) (ps : List Addr) (f : Nat → A5) (c n m a : Nat), vs = [.ref l, .int ((2 ^ a : Nat) : Int)] ∧ Bd5 K H l ps f c n m ∧ c ≤ 6 ∧ a < c ∧ n ≤ 450000 ∧ m ≤ 10000 ∧
  ∀ (r : Addr) (H' : Hp) (qs : List Addr) (g : Nat → A5), H r = none → Same H H' → Bd5 K H' r qs g c (n + 2 * m + 3) (m + 1) → (∀ w, w < 2 ^ c → MixAt f a w (g w)) → Q (.ref r) H'
theorem ok_mix {n m : Nat} {x y z p : A5} (ox : Ok5 n m x) (oy : Ok5 n m y) (hp : p.2 ≤ max x.2 y.2) (sp : Sz4 (n + x.2.toNat + y.2.toNat + 2) p.1.1 p.1.2.1 p.1.2.2.1 p.1.2.2.2)
    (r : Red (p.1.2.1 - p.1.2.2.2) (p.1.1 + p.1.2.2.1) (p.1.2.1 + p.1.2.2.2) (p.1.2.2.1 - p.1.1) (p.2 + 1) z.1.1 z.1.2.1 z.1.2.2.1 z.1.2.2.2 z.2) : Ok5 (n + 2 * m + 3) (m + 1 : Nat) z := by
  have hx := ox.le
  have hy := oy.le
  have hx0 := ox.amt.nn
  have hy0 := oy.amt.nn
  have s : Sz4 (n + 2 * m + 2) p.1.1 p.1.2.1 p.1.2.2.1 p.1.2.2.2 := sp.mono (by omega)
  have neg : ∀ {u v : Int}, Sz (n + 2 * m + 2) u → Sz (n + 2 * m + 2) v → Sz (n + 2 * m + 3) (u - v) := fun hu hv => by rw [Int.sub_eq_add_neg]; exact (hu.add hv.neg).mono (by omega)
  have add : ∀ {u v : Int}, Sz (n + 2 * m + 2) u → Sz (n + 2 * m + 2) v → Sz (n + 2 * m + 3) (u + v) := fun hu hv => (hu.add hv).mono (by omega)
  refine ⟨r.sz ⟨neg s.z2 s.z4, add s.z1 s.z3, add s.z2 s.z4, neg s.z3 s.z1⟩, r.amt, ?_⟩
  have := r.le
  omega
end K36

set_option maxHeartbeats 4000000
namespace K36
open PySem PySem.Spec PyProof.Rows L2 Am Pc Ba
theorem in2_of {K : PySem.W.Frag} {H : Hp} {p q : Addr} {x y : A5} {n m : Nat} (hp : At5 K H p x) (hq : At5 K H q y) (ox : Ok5 n m x) (oy : Ok5 n m y) (hn : n ≤ 450000) (hm : m ≤ 10000) : In2 K n [.ref p, .ref q] H p q x.1.1 x.1.2.1 x.1.2.2.1 x.1.2.2.2 x.2 y.1.1 y.1.2.1 y.1.2.2.1 y.1.2.2.2 y.2 := by
  have := ox.le
  have := oy.le
  exact ⟨rfl, hp, hq, ox.amt.nn, oy.amt.nn, by omega, by omega, ox.sz, oy.sz⟩
section
variable {P : Program} {w : World} {K : PySem.W.Frag} {mg : Str → Option Value} {base : Heap} {k : Nat} {h : Heap}
theorem sc_mixedat : FnScope ["board", "word", "bit"] ["board", "word", "bit"] (defScope (top 38)) := ⟨rfl, rfl, rfl, by decide +kernel, rfl, by decide +kernel, by decide +kernel⟩
theorem ok_mixedat (F : FunAt K "mixed_at" (top 38) .none) (X : K.In h) (G : h.Ns mainGlobals mg) (c_rooted : Cal P w K mg base k "rooted" ["one"] spRooted) (c_minus : Cal P w K mg base k "minus" ["one", "other"] (spMinusK K)) (c_plus : Cal P w K mg base k "plus" ["one", "other"] (spPlusK K)) :
    Cal P w K mg base (k + 1) "mixed_at" ["board", "word", "bit"] (spMixedAtK K) := by
  have nd := sc_mixedat.nd
  refine F.cal X G sc_mixedat (bnd3 fun _ _ _ _ _ _ _ _ _ => rfl) (fun vs H Q E h => ?_) (fun f cdv A outer s H vs Q E hr h => ?_)
  · obtain ⟨l, ps, f, c, n, m, a, wd, rfl, _⟩ := h; rfl
  obtain ⟨l, ps, g, c, n, m, a, wd, rfl, BD, c6, ac, wc, n3, m1, kq⟩ := h
  have SL : SqL K H l (ps.map V.ref) := SqL.of BD.lst
  refine ⟨_, (@pss_cons _ _ _ _ _ (ps_if (pt_truI (pe_op op_and (pv 1) (pv 2)) (by intro _; rfl))
      (@pss_one _ _ _ (ps_ret (pe_cal c_rooted hr rfl (pa_cons (pe_cal c_minus hr rfl (pa_cons (pe_ix ix_list (pv 0) (pe_op op_xor (pv 1) (pv 2)) (fun _ _ => rfl)) (pa_cons (pe_ix ix_list (pv 0) (pv 1) (fun _ _ => rfl)) pa_nil))) pa_nil))))
      pss_nil)
    (@pss_one _ _ _ (ps_ret (pe_cal c_rooted hr rfl (pa_cons (pe_cal c_plus hr rfl (pa_cons (pe_ix ix_list (pv 0) (pv 1) (fun _ _ => rfl)) (pa_cons (pe_ix ix_list (pv 0) (pe_op op_or (pv 1) (pv 2)) (fun _ _ => rfl)) pa_nil))) pa_nil))))), ?_⟩
  try dsimp only [cxK]
  by_cases hb : wd / 2 ^ a % 2 = 0
  · obtain ⟨e1, e2, e3, _⟩ := w_low c6 ac wc hb
    obtain ⟨p, _, hp, ap⟩ := BD.at wc
    obtain ⟨q, _, hq, aq⟩ := BD.at e3
    refine ⟨_, rfl, _, rfl, _, _, rfl, rfl, _, rfl, ?_⟩
    rw [and_i, e1]
    refine iteF ?_
    refine ⟨_, rfl, _, rfl, l, _, _, _, rfl, rfl, SL, ap, _, rfl, _, rfl, _, rfl, _, _, rfl, rfl, l, _, _, _, rfl, rfl, SL, (by rw [or_i, e2]; exact aq), ?_⟩
    have ox := BD.ok _ wc
    have oy := BD.ok _ e3
    refine ⟨n, p, q, _, _, _, _, _, _, _, _, _, _, in2_of hp hq ox oy n3 m1, fun r1 H1 x y z u v S1 hr1 SU SZ => ?_⟩
    refine ⟨r1, x, y, z, u, v, rfl, hr1, SU.amt.nn, fun r2 H2 x' y' z' u' v' S2 hr2 RE => ?_⟩
    refine kq r2 H2 ((x', y', z', u'), v') (S1.trans S2) hr2 (ok_mix (p := ((x, y, z, u), v)) ox oy SU.le SZ RE) ?_
    unfold MixAt
    rw [if_pos hb]
    exact ⟨((x, y, z, u), v), by simpa only [Int.one_mul] using SU, RE.amt, RE.same⟩
  · obtain ⟨e1, e2, e3, _⟩ := w_high c6 ac wc hb
    obtain ⟨p, _, hp, ap⟩ := BD.at (i := wd - 2 ^ a) (Nat.lt_of_le_of_lt (Nat.sub_le _ _) wc)
    obtain ⟨q, _, hq, aq⟩ := BD.at wc
    have ox := BD.ok (wd - 2 ^ a) (Nat.lt_of_le_of_lt (Nat.sub_le _ _) wc)
    have oy := BD.ok _ wc
    refine ⟨_, rfl, _, rfl, _, _, rfl, rfl, _, rfl, ?_⟩
    rw [and_i, show ((((wd &&& 2 ^ a : Nat) : Int) != 0) = true) by simpa using e1]
    refine iteT ?_
    refine ⟨_, rfl, _, rfl, _, rfl, _, _, rfl, rfl, l, _, _, _, rfl, rfl, SL, (by rw [xor_i, e2]; exact ap), _, rfl, _, rfl, l, _, _, _, rfl, rfl, SL, aq, ?_⟩
    refine ⟨n, p, q, _, _, _, _, _, _, _, _, _, _, in2_of hp hq ox oy n3 m1, fun r1 H1 x y z u v S1 hr1 SU SZ => ?_⟩
    refine ⟨r1, x, y, z, u, v, rfl, hr1, SU.amt.nn, fun r2 H2 x' y' z' u' v' S2 hr2 RE => ?_⟩
    refine kq r2 H2 ((x', y', z', u'), v') (S1.trans S2) hr2 (ok_mix (p := ((x, y, z, u), v)) ox oy SU.le SZ RE) ?_
    unfold MixAt
    rw [if_neg hb]
    exact ⟨((x, y, z, u), v), by simpa only [Int.neg_one_mul] using SU, RE.amt, RE.same⟩
theorem sc_mixed : FnScope ["board", "bit"] ["board", "bit"] (defScope (top 37)) := ⟨rfl, rfl, rfl, by decide +kernel, rfl, by decide +kernel, by decide +kernel⟩
theorem ok_mixed (F : FunAt K "mixed" (top 37) .none) (X : K.In h) (G : h.Ns mainGlobals mg) (B : Bs mg) (c_mixed_at : Cal P w K mg base k "mixed_at" ["board", "word", "bit"] (spMixedAtK K)) : Cal P w K mg base (k + 1) "mixed" ["board", "bit"] (spMixedK K) := by
  have nd := sc_mixed.nd
  refine F.cal X G sc_mixed (bnd2 fun _ _ _ _ _ _ _ _ => rfl) (fun vs H Q E h => ?_) (fun f cdv A outer s H vs Q E hr h => ?_)
  · obtain ⟨l, ps, f, c, n, m, a, rfl, _⟩ := h; rfl
  obtain ⟨l, ps, g, c, n, m, a, rfl, BD, c6, ac, n3, m1, kq⟩ := h
  have p6 := pow6 c6
  have SL : SqL K H l (ps.map V.ref) := SqL.of BD.lst
  have hlen : (((ps.map V.ref).length : Nat) : Int).toNat = 2 ^ c := by rw [List.length_map, BD.len, Int.toNat_natCast]
  refine ⟨_, (@pss_one _ _ _ (ps_ret (pe_lc rfl (LcOk.of (Nc := ["word", "board", "bit"]) (mp := [none, some 0, some 1]) (by kernel_rfl)) (pi_range1 rfl B.range (pa_cons (pe_callB call_len_seq rfl B.len PySem.boot_len (pa_cons (pv 0) pa_nil)) pa_nil)) (fun _ _ _ _ => (pg_name (i := 0) (show (["word", "board", "bit"] : List Str).Nodup by decide +kernel) rfl (Or.inl rfl))) (fun _ _ _ _ => (pe_cal c_mixed_at hr rfl (pa_cons (pv 1) (pa_cons (pv 0) (pa_cons (pv 2) pa_nil)))))))), ?_⟩
  try dsimp only [cxK]
  refine ⟨_, rfl, l, _, rfl, .inl SL, _, rfl, by rw [List.length_map, BD.len]; omega, by rw [List.length_map, BD.len]; omega, fun acc hacc => ?_⟩
  rw [hlen]
  refine lc_range (n := 2 ^ c) (fr := [some (.ref l), some (.int ((2 ^ a : Nat) : Int))]) (fun i ys H' => ∃ (qs : List Addr) (y : Nat → A5), Same H H' ∧ H' acc = some (.lst ys) ∧ ys = qs.map V.ref ∧ qs.length = i ∧ ValsK K H' qs y ∧ ∀ j, j < i → Ok5 (n + 2 * m + 3) (m + 1 : Nat) (y j) ∧ MixAt g a j (y j)) (t64 p6)
    ⟨[], fun _ => ((0, 0, 0, 0), 0), same_new hacc _, upd_same, rfl, rfl, (fun _ _ z => by cases z), fun j hj => absurd hj (Nat.not_lt_zero _)⟩ ?_ ?_
  · rintro i ys H2 N hi hy ⟨qs, y, S2, a2, rfl, ql, v2, ok2⟩ kN
    refine ⟨_, rfl, _, rfl, _, rfl, l, ps, g, c, n, m, a, i, (by show [V.ref l, V.int (0 + (i : Int)), _] = _; rw [Int.zero_add]), BD.same S2, c6, ac, hi, n3, m1, fun r H3 z S3 hr3 oz mz => ?_⟩
    refine kN (.ref r) H3 (S3 _ _ a2) ⟨qs ++ [r], fun j => if j = qs.length then z else y j, same_upd (S2.trans S3) hacc, upd_same, by rw [List.map_append]; rfl, by simp [ql], vals_upd (xs := qs.map V.ref) (vals_push v2 S3 (At5.of hr3)) (S3 _ _ a2), fun j hj => ?_⟩
    by_cases e : j = qs.length
    · show Ok5 _ _ (if j = qs.length then z else y j) ∧ MixAt g a j (if j = qs.length then z else y j)
      rw [if_pos e, e, ql]
      exact ⟨oz, mz⟩
    · show Ok5 _ _ (if j = qs.length then z else y j) ∧ MixAt g a j (if j = qs.length then z else y j)
      rw [if_neg e]
      exact ok2 j (by omega)
  · rintro ys H2 hy ⟨qs, y, S2, a2, rfl, ql, v2, ok2⟩
    exact kq acc H2 qs y hacc S2 ⟨a2, ql, v2, fun i hi => (ok2 i hi).1⟩ fun w hw => (ok2 w hw).2
end
end K36

set_option maxHeartbeats 4000000
/-! == and != of tuples of a text and ints, and of lists of such tuples -/
namespace L2
open PySem PySem.Spec PyProof.Rows
abbrev Mm := Str × List Int
abbrev mT (m : Mm) : HO := .tup (.str m.1 :: m.2.map V.int)
def RowsM (H : Hp) : List Addr → List Mm → Prop := Paired fun p m => H p = some (mT m)
theorem RowsM.same {H H' : Hp} {ps : List Addr} {ms : List Mm} (h : RowsM H ps ms) (s : Same H H') : RowsM H' ps ms := Paired.imp' (fun _ _ c => s _ _ c) h
section
variable {P : Program} {w : World} {H : Hp} {h : Heap}
end
section
variable {X : Cx}
end
end L2

set_option maxHeartbeats 4000000
/-! reversed(a list), walked by a block -/
namespace L2
open PySem PySem.Spec PyProof.Rows
end L2

set_option maxHeartbeats 4000000
namespace K36
open PySem PySem.Spec PyProof.Rows L2 Am Pc Ba
/-! a mix undoes itself -/
end K36

set_option maxHeartbeats 4000000
namespace K36
open PySem PySem.Spec PyProof.Rows L2 Am Pc Ba
/-! rows of moves, and what undoes them -/
inductive Gm where
  | mv (v : Mv)
  | mix (a : Nat)
namespace Gm
def nm : Gm → Str
  | mv v => v.nm
  | mix _ => "mix"
def ns : Gm → List Int
  | mv v => v.ns
  | mix a => [(a : Int)]
def Ok (c : Nat) : Gm → Prop
  | mv v => v.Ok c
  | mix a => a < c
abbrev mm (m : Gm) : Mm := (m.nm, m.ns)
end Gm
def Step (c : Nat) : Gm → (Nat → A5) → (Nat → A5) → Prop
  | .mv v, f, g => ∀ w, w < 2 ^ c → g w = spin (f (v.to w)) (v.sp w : Nat)
  | .mix a, f, g => ∀ w, w < 2 ^ c → MixAt f a w (g w)
inductive Steps (c : Nat) : List Gm → (Nat → A5) → (Nat → A5) → Prop
  | nil {f : Nat → A5} : Steps c [] f f
  | cons {m : Gm} {ms : List Gm} {f g h : Nat → A5} : Step c m f g → Steps c ms g h → Steps c (m :: ms) f h
theorem Steps.snoc {c : Nat} : ∀ {a : List Gm} {m : Gm} {f g h : Nat → A5}, Steps c a f g → Step c m g h → Steps c (a ++ [m]) f h
  | _, _, _, _, _, .nil, s => .cons s .nil
  | _, _, _, _, _, .cons s t, r => .cons s (Steps.snoc t r)
theorem Gm.fits {m : Gm} {c : Nat} (h : m.Ok c) : Fits m.nm m.ns c := by
  cases m with
  | mv v => exact Mv.fits h
  | mix a =>
    have e : named "mix" [(a : Int)] = [(a : Int)] := by unfold named; rw [if_neg (by decide +kernel)]
    have h : a < c := h
    exact ⟨⟨(show numAt NB "mix" = some (.int ((1 : Nat) : Int)) by decide +kernel), (show 1 ≤ 3 by decide), fun z => absurd (show ("mix" : Str) = "turn" from z) (by decide +kernel)⟩, by show ∀ x ∈ named "mix" [(a : Int)], _; rw [e]; intro b hb; rw [List.mem_singleton.mp hb]; omega, by show (named "mix" [(a : Int)]).Nodup; rw [e]; simp⟩
end K36

set_option maxHeartbeats 4000000
namespace K36
open PySem PySem.Spec PyProof.Rows L2 Am Pc Ba
theorem ok_spin5 {n : Nat} {M : Int} {x : A5} {k : Int} (o : Ok5 n M x) : Ok5 n M (spin x k) := ok_rot o _
theorem Bd5.bo {K : PySem.W.Frag} {H : Hp} {l : Addr} {ps : List Addr} {f : Nat → A5} {c n m : Nat} (b : Bd5 K H l ps f c n m) : Bo K H l ps f c := ⟨b.lst, b.len, b.vals⟩
def spTurnedK (K : PySem.W.Frag) : Sp := fun vs H Q _ => ∃ (l p : Addr) (ps : List Addr) (f : Nat → A5) (c n M : Nat) (m : Gm), vs = [.ref l, .ref p] ∧ H p = some (MvT m.nm m.ns) ∧ m.Ok c ∧ Bd5 K H l ps f c n M ∧ c ≤ 6 ∧ n ≤ 450000 ∧ M ≤ 10000 ∧
  ∀ (r : Addr) (H' : Hp) (qs : List Addr) (g : Nat → A5), H r = none → Same H H' → Bd5 K H' r qs g c (n + 2 * M + 3) (M + 1) → Step c m f g → Q (.ref r) H'
section
variable {P : Program} {w : World} {K : PySem.W.Frag} {mg : Str → Option Value} {base : Heap} {k : Nat} {h : Heap}
theorem sc_turned : FnScope ["board", "move"] ["board", "move"] (defScope (top 36)) := ⟨rfl, rfl, rfl, by decide +kernel, rfl, by decide +kernel, by decide +kernel⟩
theorem ok_turned (F : FunAt K "turned" (top 36) .none) (X : K.In h) (G : h.Ns mainGlobals mg) (B : Bs mg) (c_check_move : Cal P w K mg base k "check_move" ["move", "cells"] spCheck) (c_cells_of : Cal P w K mg base k "cells_of" ["board"] (spCellsOf K)) (c_mixed : Cal P w K mg base k "mixed" ["board", "bit"] (spMixedK K)) (c_spun_where : Cal P w K mg base k "spun_where" ["board", "bits", "k"] (spWhereK K))
    (c_word_behind : Cal P w K mg base k "word_behind" ["word", "move"] spBehind) : Cal P w K mg base (k + 1) "turned" ["board", "move"] (spTurnedK K) := by
  have nd := sc_turned.nd
  refine F.cal X G sc_turned (bnd2 fun _ _ _ _ _ _ _ _ => rfl) (fun vs H Q E h => ?_) (fun f cdv A outer s H vs Q E hr h => ?_)
  · obtain ⟨l, p, ps, f, c, n, M, m, rfl, _⟩ := h; rfl
  obtain ⟨l, p, ps, g, c, n, M, m, rfl, hp, ok, BD, c6, n4, m1, kq0⟩ := h
  have p6 := pow6 c6
  have BO := BD.bo
  have ip : ∀ a : Nat, (1 : Int) * 2 ^ ((a : Int)).toNat = ((2 ^ a : Nat) : Int) := fun a => ipow a
  refine ⟨_, (@pss_cons _ _ _ _ _ (ps_expr (pe_cal c_check_move hr rfl (pa_cons (pv 1) (pa_cons (pe_cal c_cells_of hr rfl (pa_cons (pv 0) pa_nil)) pa_nil))))
    (@pss_cons _ _ _ _ _ (ps_if (pt_cmpR op_eq (pe_ix ix_tup (pv 1) pe_int (fun _ _ => rfl)) pe_str (nomark _))
      (@pss_one _ _ _ (ps_ret (pe_cal c_mixed hr rfl (pa_cons (pv 0) (pa_cons (pe_op op_shlS pe_int (pe_ix ix_tup (pv 1) pe_int (fun _ _ => rfl))) pa_nil)))))
      pss_nil)
    (@pss_cons _ _ _ _ _ (ps_if (pt_cmpR op_eq (pe_ix ix_tup (pv 1) pe_int (fun _ _ => rfl)) pe_str (nomark _))
      (@pss_one _ _ _ (ps_ret (pe_cal c_spun_where hr rfl (pa_cons (pv 0) (pa_cons (pe_op op_shlS pe_int (pe_ix ix_tup (pv 1) pe_int (fun _ _ => rfl))) (pa_cons (pe_ix ix_tup (pv 1) pe_int (fun _ _ => rfl)) pa_nil))))))
      pss_nil)
    (@pss_cons _ _ _ _ _ (ps_if (pt_cmpR op_eq (pe_ix ix_tup (pv 1) pe_int (fun _ _ => rfl)) pe_str (nomark _))
      (@pss_one _ _ _ (ps_ret (pe_cal c_spun_where hr rfl (pa_cons (pv 0) (pa_cons (pe_op op_or (pe_op op_shlS pe_int (pe_ix ix_tup (pv 1) pe_int (fun _ _ => rfl))) (pe_op op_shlS pe_int (pe_ix ix_tup (pv 1) pe_int (fun _ _ => rfl)))) (pa_cons pe_int pa_nil))))))
      pss_nil)
    (@pss_one _ _ _ (ps_ret (pe_lc rfl (LcOk.of (Nc := ["word", "board", "move"]) (mp := [none, some 0, some 1]) (by kernel_rfl)) (pi_range1 rfl B.range (pa_cons (pe_callB call_len_seq rfl B.len PySem.boot_len (pa_cons (pv 0) pa_nil)) pa_nil)) (fun _ _ _ _ => (pg_name (i := 0) (show (["word", "board", "move"] : List Str).Nodup by decide +kernel) rfl (Or.inl rfl))) (fun _ _ _ _ => (pe_ix ix_listC (pv 1) (pe_cal c_word_behind hr rfl (pa_cons (pv 0) (pa_cons (pv 2) pa_nil))) (fun _ _ => rfl)))))))))), ?_⟩
  try dsimp only [cxK]
  refine ⟨_, rfl, _, rfl, l, _, c, rfl, SqL.of BO.lst, by rw [List.length_map, BO.len], c6, p, m.nm, m.ns, c, rfl, hp, Gm.fits ok, fun H1 S1 => ?_⟩
  have SP : SqT K H1 p (.str m.nm :: m.ns.map V.int) := SqT.of (S1 _ _ hp)
  have B1 := BO.same S1
  have BD1 := BD.same S1
  cases m with
  | mix a =>
    have ac : a < c := ok
    refine ⟨_, rfl, p, _, _, .str "mix", rfl, rfl, SP, at0, rfl, _, rfl, decI (fun _ => ?_) (fun z => absurd rfl z)⟩
    refine ⟨_, rfl, _, rfl, p, _, _, .int a, rfl, rfl, SP, rfl, _, _, rfl, rfl, ⟨1, sz1, by omega, by omega⟩, ?_⟩
    exact ⟨l, ps, g, c, n, M, a, congrArg (fun z => [V.ref l, V.int z]) (ip a), BD1, c6, ac, n4, m1, fun r H2 qs y hr2 S2 B2 M2 => kq0 r H2 qs y (S1.free hr2) (S1.trans S2) B2 M2⟩
  | mv v =>
  have SP : SqT K H1 p (.str v.nm :: v.ns.map V.int) := SP
  have ok : v.Ok c := ok
  have hp : H p = some (MvT v.nm v.ns) := hp
  have kq : ∀ (r : Addr) (H' : Hp) (qs : List Addr) (y : Nat → A5), H r = none → Same H H' → Bo K H' r qs y c → (∀ w, w < 2 ^ c → y w = spin (g (v.to w)) (v.sp w : Nat)) → Q (.ref r) H' := fun r H' qs y h1 h2 h3 h4 =>
    kq0 r H' qs y h1 h2 ⟨h3.lst, h3.len, h3.vals, fun i hi => by rw [h4 i hi]; exact (ok_spin5 (BD.ok _ (Mv.to_lt c6 ok hi))).mono (by omega) (by omega)⟩ h4
  refine ⟨_, rfl, p, _, _, .str v.nm, rfl, rfl, SP, at0, rfl, _, rfl, decI (fun z => absurd (V.str.inj z) (not_mix v)) (fun _ => ?_)⟩
  refine ⟨_, rfl, p, _, _, .str v.nm, rfl, rfl, SP, at0, rfl, _, rfl, decI (fun z => ?_) (fun zt => ?_)⟩
  · obtain ⟨a, kk, rfl⟩ := nm_turn (V.str.inj z)
    have ok : a < c ∧ 1 ≤ kk ∧ kk ≤ 7 := ok
    refine ⟨_, rfl, _, rfl, p, _, _, .int a, rfl, rfl, SP, rfl, _, _, rfl, rfl, ⟨1, sz1, by omega, by omega⟩, _, rfl, p, _, _, .int kk, rfl, rfl, SP, rfl, ?_⟩
    refine ⟨l, ps, g, c, 2 ^ a, kk, (by show [V.ref l, V.int (1 * 2 ^ ((a : Int)).toNat), V.int (kk : Int)] = _; rw [ip]), B1, c6, fun r H2 qs y hr2 S2 B2 M2 => kq r H2 qs y (S1.free hr2) (S1.trans S2) B2 fun w hw => ?_⟩
    rw [M2 w hw]
    show _ = spin (g w) ((if w &&& 2 ^ a = 2 ^ a then kk else 0 : Nat) : Int)
    split
    · rfl
    · rfl
  refine ⟨_, rfl, p, _, _, .str v.nm, rfl, rfl, SP, at0, rfl, _, rfl, decI (fun z => ?_) (fun zp => ?_)⟩
  · obtain ⟨a, b, rfl⟩ := nm_pair (V.str.inj z)
    have ok : a < c ∧ b < c ∧ a ≠ b := ok
    refine ⟨_, rfl, _, rfl, p, _, _, .int a, rfl, rfl, SP, rfl, _, _, rfl, rfl, ⟨1, sz1, by omega, by omega⟩, _, rfl, p, _, _, .int b, rfl, rfl, SP, rfl, _, _, rfl, rfl, ⟨1, sz1, by omega, by omega⟩, _, _, rfl, rfl, ?_⟩
    refine ⟨l, ps, g, c, 2 ^ a ||| 2 ^ b, 4, (by show [V.ref l, V.int (Builtin.bitOr (1 * 2 ^ ((a : Int)).toNat) (1 * 2 ^ ((b : Int)).toNat)), V.int 4] = _; rw [ip, ip, or_i]), B1, c6, fun r H2 qs y hr2 S2 B2 M2 => kq r H2 qs y (S1.free hr2) (S1.trans S2) B2 fun w hw => ?_⟩
    rw [M2 w hw]
    show _ = spin (g w) ((if w &&& (2 ^ a ||| 2 ^ b) = (2 ^ a ||| 2 ^ b) then 4 else 0 : Nat) : Int)
    split
    · rfl
    · rfl
  have nt : v.nm ≠ "turn" := fun e => zt (by rw [e])
  have np : v.nm ≠ "pair" := fun e => zp (by rw [e])
  have hlen : (((ps.map V.ref).length : Nat) : Int).toNat = 2 ^ c := by rw [List.length_map, BO.len, Int.toNat_natCast]
  have SL : SqL K H1 l (ps.map V.ref) := SqL.of B1.lst
  refine ⟨_, rfl, l, _, rfl, .inl SL, _, rfl, by rw [List.length_map, BO.len]; omega, by rw [List.length_map, BO.len]; omega, fun acc hacc => ?_⟩
  rw [hlen]
  refine lc_range (n := 2 ^ c) (fr := [some (.ref l), some (.ref p)]) (fun i ys H' => ∃ (qs : List Addr) (y : Nat → A5), Same H1 H' ∧ H' acc = some (.lst ys) ∧ ys = qs.map V.ref ∧ qs.length = i ∧ ValsK K H' qs y ∧ ∀ j, j < i → y j = g (v.to j)) (t64 p6)
    ⟨[], fun _ => ((0, 0, 0, 0), 0), same_new hacc _, upd_same, rfl, rfl, (fun _ _ z => by cases z), fun j hj => absurd hj (Nat.not_lt_zero _)⟩ ?_ ?_
  · rintro i ys H2 N hi hy ⟨qs, y, S2, a2, rfl, ql, v2, ok2⟩ kN
    refine ⟨_, rfl, _, rfl, _, rfl, i, p, v, c, (by show [V.int (0 + (i : Int)), V.ref p] = _; rw [Int.zero_add]), S2 _ _ (S1 _ _ hp), ok, c6, nt, np, fun H3 S3 => ?_⟩
    obtain ⟨q, _, hq, aq⟩ := ((B1.same S2).same S3).at (Mv.to_lt c6 ok hi)
    refine ⟨l, _, _, _, rfl, rfl, SqL.of (S3 _ _ (S2 _ _ B1.lst)), aq, ?_⟩
    refine kN (.ref q) H3 (S3 _ _ a2) ⟨qs ++ [q], fun j => if j = qs.length then g (v.to i) else y j, same_upd (S2.trans S3) hacc, upd_same, by rw [List.map_append]; rfl, by simp [ql], vals_upd (xs := qs.map V.ref) (vals_push v2 S3 hq) (S3 _ _ a2), fun j hj => ?_⟩
    show (if j = qs.length then g (v.to i) else y j) = _
    by_cases e : j = qs.length
    · rw [if_pos e, e, ql]
    · rw [if_neg e]
      exact ok2 j (by omega)
  · rintro ys H2 hy ⟨qs, y, S2, a2, rfl, ql, v2, ok2⟩
    refine kq acc H2 qs y (S1.free hacc) (S1.trans S2) ⟨a2, ql, v2⟩ fun w hw => ?_
    rw [ok2 w hw, sp_none nt np w]
    rfl
end
end K36

set_option maxHeartbeats 4000000
namespace K36
open PySem PySem.Spec PyProof.Rows L2 Am Pc Ba
def Mvs (H : Hp) (ps : List Addr) (ms : List Gm) : Prop := RowsM H ps (ms.map Gm.mm)
theorem Mvs.same {H H' : Hp} {ps : List Addr} {ms : List Gm} (h : Mvs H ps ms) (s : Same H H') : Mvs H' ps ms := RowsM.same h s
theorem Mvs.length {H : Hp} {ps : List Addr} {ms : List Gm} (h : Mvs H ps ms) : ps.length = ms.length := by
  have := Paired.length h
  rw [List.length_map] at this
  exact this
theorem Mvs.get {H : Hp} : ∀ {ps : List Addr} {ms : List Gm} {i : Nat} {p : Addr}, Mvs H ps ms → ps[i]? = some p → ∃ m, ms[i]? = some m ∧ H p = some (MvT m.nm m.ns)
  | p' :: ps, m :: ms, 0, p, .cons a r, h => by
    have : p' = p := by simpa using h
    subst this
    exact ⟨m, rfl, a⟩
  | p' :: ps, m :: ms, i + 1, p, .cons a r, h => by
    obtain ⟨m', b, c⟩ := Mvs.get (ps := ps) (ms := ms) (i := i) (p := p) r (by simpa using h)
    exact ⟨m', b, c⟩
theorem Mvs.snoc {H : Hp} {ps : List Addr} {ms : List Gm} {p : Addr} {m : Gm} (h : Mvs H ps ms) (e : H p = some (MvT m.nm m.ns)) : Mvs H (ps ++ [p]) (ms ++ [m]) := by
  unfold Mvs
  rw [List.map_append]
  exact Paired.snoc h e
theorem Mvs.upd {H : Hp} {l : Addr} {xs ys : List V} {ps : List Addr} {ms : List Gm} (h : Mvs H ps ms) (hl : H l = some (.lst xs)) : Mvs (upd H l (.lst ys)) ps ms :=
  Paired.imp' (fun _ _ c => by rw [upd_ne (ne_of c hl (by intro z; cases z))]; exact c) h
structure Rw (H : Hp) (l : Addr) (ps : List Addr) (ms : List Gm) (c : Nat) : Prop where
  lst : H l = some (.lst (ps.map V.ref))
  mvs : Mvs H ps ms
  ok : ∀ m ∈ ms, m.Ok c
  len : ms.length ≤ 200
def spRunK (K : PySem.W.Frag) : Sp := fun vs H Q _ => ∃ (l lr : Addr) (ps rp : List Addr) (f : Nat → A5) (c n M : Nat) (ms : List Gm), vs = [.ref l, .ref lr] ∧ Rw H lr rp ms c ∧ Bd5 K H l ps f c n M ∧ c ≤ 6 ∧ M ≤ 300 ∧ n ≤ 210000 ∧
  ∀ (r : Addr) (H' : Hp) (qs : List Addr) (g : Nat → A5), H r = none → Same H H' → Bd5 K H' r qs g c (n + 1010 * ms.length) (M + ms.length) → Steps c ms f g → Q (.ref r) H'
section
variable {P : Program} {w : World} {K : PySem.W.Frag} {mg : Str → Option Value} {base : Heap} {k : Nat} {h : Heap}
theorem sc_run : FnScope ["board", "row", "behind", "move"] ["board", "row"] (defScope (top 43)) := ⟨rfl, rfl, rfl, by decide +kernel, rfl, by decide +kernel, by decide +kernel⟩
theorem ok_run (F : FunAt K "run" (top 43) .none) (X : K.In h) (G : h.Ns mainGlobals mg) (B : Bs mg) (c_turned : Cal P w K mg base k "turned" ["board", "move"] (spTurnedK K)) : Cal P w K mg base (k + 1) "run" ["board", "row"] (spRunK K) := by
  have nd := sc_run.nd
  refine F.cal X G sc_run (bnd2 fun _ _ _ _ _ _ _ _ => rfl) (fun vs H Q E h => ?_) (fun f cdv A outer s H vs Q E hr h => ?_)
  · obtain ⟨l, lr, ps, rp, f, c, n, M, ms, rfl, _⟩ := h; rfl
  obtain ⟨l, lr, ps, rp, g, c, n, M, ms, rfl, RW, BD, c6, M3, n2, kq⟩ := h
  have l200 := RW.len
  have lps := RW.mvs.length
  have SR : SqL K H lr (rp.map V.ref) := SqL.of RW.lst
  refine ⟨_, (@pss_cons _ _ _ _ _ (@ps_set _ _ 2 _ _ _ _ nd rfl (Or.inl rfl) (pe_callTy call_list_of rfl B.list boot_list (pa_cons (pv 0) pa_nil)) rfl (.inl rfl))
    (@pss_cons _ _ _ _ _ (ps_for PassesOwn.never rfl (pi_list (pv 1)) (pg_name (i := 3) nd rfl (Or.inl rfl))
      (@pss_one _ _ _ (@ps_set _ _ 2 _ _ _ _ nd rfl (Or.inl rfl) (pe_cal c_turned hr rfl (pa_cons (pv 2) (pa_cons (pv 3) pa_nil))) rfl (.inl rfl))))
    (@pss_one _ _ _ (ps_ret (pv 2))))), ?_⟩
  try dsimp only [cxK]
  refine ⟨_, rfl, l, _, rfl, .inl (SqL.of BD.lst), fun b0 hb0 => ?_⟩
  have s0 := same_new hb0 (.lst (ps.map V.ref))
  refine ⟨_, rfl, lr, rfl, ⟨_, s0.seq SR⟩, for_list (K := K) (a := lr) (xs := rp.map V.ref) (fun i σ H' => Same H H' ∧ ∃ (b : Addr) (qs : List Addr) (y : Nat → A5) (v3 : Option V), H b = none ∧ Bd5 K H' b qs y c (n + 1010 * i) (M + i) ∧ Steps c (ms.take i) g y ∧ σ = [some (.ref l), some (.ref lr), some (.ref b), v3])
    ⟨s0, b0, ps, g, none, hb0, ⟨upd_same, BD.len, BD.vals.same s0, BD.ok⟩, by rw [List.take_zero]; exact .nil, rfl⟩ (fun i σ H' _ e => e.1.seq SR) ?_ ?_⟩
  · rintro i x σ H1 hx ⟨S1, b, qs, y, v3, hb, B1, ST, rfl⟩
    have ilt : i < ms.length := by
      have := (List.getElem?_eq_some_iff.mp hx).1
      rw [List.length_map] at this
      omega
    rw [List.getElem?_map] at hx
    obtain ⟨p, hp, rfl⟩ := Option.map_eq_some_iff.mp hx
    obtain ⟨m, hm, p0⟩ := RW.mvs.get hp
    refine ⟨_, rfl, _, rfl, b, p, qs, y, c, _, _, m, rfl, S1 _ _ p0, RW.ok m (List.mem_of_getElem? hm), B1, c6, by omega, by omega, fun r H2 rs z hr S2 B2 st => ?_⟩
    refine ⟨S1.trans S2, r, rs, z, _, S1.free hr, ⟨B2.lst, B2.len, B2.vals, fun j hj => (B2.ok j hj).mono (by omega) (by omega)⟩, ?_, rfl⟩
    rw [List.take_add_one, hm]
    exact ST.snoc st
  · rintro σ H1 ⟨S1, b, qs, y, v3, hb, B1, ST, rfl⟩
    rw [List.length_map, lps] at B1 ST
    rw [List.take_length] at ST
    exact ⟨_, rfl, kq b H1 qs y hb S1 B1 ST⟩
end
end K36

set_option maxHeartbeats 4000000
namespace K36
open PySem PySem.Spec PyProof.Rows L2 Am Pc Ba
def spMoveBy : Sp := fun vs H Q _ => ∃ (cl : Int) (c : Nat), vs = [.int cl, .int c] ∧ 1 ≤ c ∧ c ≤ 6 ∧ ∀ (r : Addr) (H' : Hp) (nm : Str) (ns : List Int), Same H H' → H' r = some (MvT nm ns) → ((nm = "mix" ∧ ∃ a : Nat, a < c ∧ ns = [(a : Int)]) ∨ ∃ v : Mv, v.Ok c ∧ nm = v.nm ∧ ns = v.ns) → Q (.ref r) H'
theorem pick {L : List Int} {i : Int} (h0 : 0 ≤ i) (h1 : i < L.length) : ∃ e ∈ L, atI (L.map V.int) i = some (.int e) := by
  refine ⟨L.getD i.toNat 0, ?_, at_map h0 h1⟩
  rw [List.getD_eq_getElem?_getD, List.getElem?_eq_getElem (by omega)]
  exact List.getElem_mem _
structure Rest (c : Nat) (no : List Nat) (R : List Int) : Prop where
  only : ∀ e ∈ R, ∃ j : Nat, e = (j : Int) ∧ j < c ∧ j ∉ no
  all : ∀ j : Nat, j < c → j ∉ no → (j : Int) ∈ R
  len : R.length ≤ 6
theorem Rest.pos1 {c a : Nat} {R : List Int} (r : Rest c [a] R) (h : 2 ≤ c) : 0 < R.length := by
  by_cases e : a = 0
  · exact List.length_pos_of_mem (r.all 1 (by omega) (by simp; omega))
  · exact List.length_pos_of_mem (r.all 0 (by omega) (by simp; omega))
theorem Rest.pos2 {c a b : Nat} {R : List Int} (r : Rest c [a, b] R) (h : 3 ≤ c) : 0 < R.length := by
  have : ∃ j : Nat, j < 3 ∧ j ≠ a ∧ j ≠ b := by
    by_cases h0 : 0 ≠ a ∧ 0 ≠ b
    · exact ⟨0, by decide, h0.1, h0.2⟩
    · by_cases h1 : 1 ≠ a ∧ 1 ≠ b
      · exact ⟨1, by decide, h1.1, h1.2⟩
      · exact ⟨2, by decide, by omega, by omega⟩
  obtain ⟨j, j3, ja, jb⟩ := this
  exact List.length_pos_of_mem (r.all j (by omega) (by simp; omega))
theorem Rest.filter {c a b : Nat} {R : List Int} (r : Rest c [a] R) {p : Int → Bool} (hp : ∀ e, p e = !decide (V.int e = V.int b)) : Rest c [a, b] ((R.filter p).map id) := by
  rw [List.map_id]
  refine ⟨fun e he => ?_, fun j hj hn => ?_, Nat.le_trans (List.length_filter_le _ _) r.len⟩
  · obtain ⟨h1, h2⟩ := List.mem_filter.mp he
    obtain ⟨j, rfl, jc, ja⟩ := r.only e h1
    refine ⟨j, rfl, jc, ?_⟩
    rw [hp] at h2
    have h3 : ¬ (V.int (j : Int) = V.int (b : Int)) := by simpa using h2
    have h4 : j ≠ b := fun z => h3 (by rw [z])
    have h5 : j ≠ a := by simpa using ja
    simp
    exact ⟨h5, h4⟩
  · simp at hn
    refine List.mem_filter.mpr ⟨r.all j hj (by simp; exact hn.1), ?_⟩
    rw [hp, decide_eq_false (fun z => hn.2 (by have := V.int.inj z; omega))]
    rfl
section
variable {P : Program} {w : World} {K : PySem.W.Frag} {mg : Str → Option Value} {base : Heap} {k : Nat} {h : Heap}
theorem sc_moveby : FnScope ["_law_cell", "_law_cells", "_law_far", "_law_kind", "_law_a", "_law_rest", "_law_b"] ["_law_cell", "_law_cells"] (defScope (top 47)) := ⟨rfl, rfl, rfl, by decide +kernel, rfl, by decide +kernel, by decide +kernel⟩
theorem ok_moveby (F : FunAt K "_law_move_by" (top 47) .none) (X : K.In h) (G : h.Ns mainGlobals mg) (B : Bs mg) : Cal P w K mg base (k + 1) "_law_move_by" ["_law_cell", "_law_cells"] spMoveBy := by
  have nd := sc_moveby.nd
  refine F.cal X G sc_moveby (bnd2 fun _ _ _ _ _ _ _ _ => rfl) (fun vs H Q E h => ?_) (fun f cdv A outer s H vs Q E hr h => ?_)
  · obtain ⟨cl, c, rfl, _⟩ := h; rfl
  obtain ⟨cl, c, rfl, c1, c6, kq⟩ := h
  have cpos : (0 : Int) < (c : Int) := by omega
  refine ⟨_, (@pss_cut _ _ _ _ _ (@ps_set _ _ 2 _ _ _ _ nd rfl (Or.inl rfl) (pe_op op_mod (pe_op op_mul (pv 0) pe_int) pe_int) rfl (.inl rfl))
    (@pss_cut _ _ _ _ _ (@ps_set _ _ 3 _ _ _ _ nd rfl (Or.inl rfl) (pe_op op_mod (pv 2) pe_int) rfl (.inl rfl))
    (@pss_cut _ _ _ _ _ (ps_if (PW.pt (pw_or (pt_cmpR op_eq (pv 1) pe_int (nomark _)) (pw_or1 (PW.pt (pw_and (pt_cmpR op_eq (pv 1) pe_int (nomark _)) (pw_and1 (pt_cmpR op_eq (pv 3) pe_int (nomark _))))))))
      (@pss_one _ _ _ (@ps_set _ _ 3 _ _ _ _ nd rfl (Or.inl rfl) (pe_op op_mod (pv 3) pe_int) rfl (.inl rfl)))
      pss_nil)
    (@pss_cut _ _ _ _ _ (@ps_set _ _ 4 _ _ _ _ nd rfl (Or.inr rfl) (pe_op op_mod (pe_op op_fdiv (pv 2) pe_int) (pv 1)) rfl (.inl rfl))
    (@pss_cons _ _ _ _ _ (ps_if (pt_cmpR op_eq (pv 3) pe_int (nomark _))
      (@pss_one _ _ _ (ps_ret (@pe_tup _ _ _ _ _ (pa_cons pe_str (pa_cons (pv 4) (pa_cons (pe_op op_add pe_int (pe_op op_mod (pe_op op_fdiv (pv 2) pe_int) pe_int)) pa_nil))))))
      pss_nil)
    (@pss_cons _ _ _ _ _ (ps_if (pt_cmpR op_lt (pv 3) pe_int (nomark _))
      (@pss_one _ _ _ (ps_ret (@pe_tup _ _ _ _ _ (pa_cons (pe_ix ix_list (@pe_lst _ _ _ _ (pa_cons pe_str (pa_cons pe_str pa_nil))) (pv 3) (fun _ _ => rfl)) (pa_cons (pv 4) pa_nil)))))
      pss_nil)
    (@pss_cut _ _ _ _ _ (ps_setLcF (i := 5) rfl nd rfl rfl (LcOk.of (Nc := ["_law_c", "_law_a"]) (mp := [none, some 4]) (by kernel_rfl)) (pi_range1 rfl B.range (pa_cons (pv 1) pa_nil)) (fun _ _ _ _ => (pg_name (i := 0) (show (["_law_c", "_law_a"] : List Str).Nodup by decide +kernel) rfl (Or.inl rfl))) (fun _ _ _ _ => (pt_cmpR op_ne (pv 0) (pv 1) (nomark _))) (fun _ _ _ _ => (pv 0)) rfl)
    (@pss_cut _ _ _ _ _ (@ps_set _ _ 6 _ _ _ _ nd rfl (Or.inr rfl) (pe_ix ix_list (pv 5) (pe_op op_mod (pe_op op_fdiv (pv 2) pe_int) (pe_callB call_len_seq rfl B.len PySem.boot_len (pa_cons (pv 5) pa_nil))) (fun _ _ => rfl)) rfl (.inl rfl))
    (@pss_cons _ _ _ _ _ (ps_if (pt_cmpR op_lt (pv 3) pe_int (nomark _))
      (@pss_one _ _ _ (ps_ret (@pe_tup _ _ _ _ _ (pa_cons (pe_ix ix_list (@pe_lst _ _ _ _ (pa_cons pe_str (pa_cons pe_str (pa_cons pe_str pa_nil)))) (pe_op op_sub (pv 3) pe_int) (fun _ _ => rfl)) (pa_cons (pv 4) (pa_cons (pv 6) pa_nil))))))
      pss_nil)
    (@pss_cut _ _ _ _ _ (ps_setLcF (i := 5) rfl nd rfl rfl (LcOk.of (Nc := ["_law_c", "_law_b"]) (mp := [none, some 6]) (by kernel_rfl)) (pi_list (pv 5)) (fun _ _ _ _ => (pg_name (i := 0) (show (["_law_c", "_law_b"] : List Str).Nodup by decide +kernel) rfl (Or.inl rfl))) (fun _ _ _ _ => (pt_cmpR op_ne (pv 0) (pv 1) (nomark _))) (fun _ _ _ _ => (pv 0)) rfl)
    (@pss_one _ _ _ (ps_ret (@pe_tup _ _ _ _ _ (pa_cons pe_str (pa_cons (pv 4) (pa_cons (pv 6) (pa_cons (pe_ix ix_list (pv 5) (pe_op op_mod (pe_op op_fdiv (pv 2) pe_int) (pe_callB call_len_seq rfl B.len PySem.boot_len (pa_cons (pv 5) pa_nil))) (fun _ _ => rfl)) pa_nil))))))))))))))))), ?_⟩
  try dsimp only [cxK]
  refine ⟨fun σ H' => H' = H ∧ ∃ n : Nat, σ = [some (.int cl), some (.int c), some (.int n), none, none, none, none], ?_, ?_⟩
  · refine ⟨_, rfl, _, _, rfl, rfl, .inr ⟨by decide, by decide⟩, _, _, rfl, rfl, p_big, rfl, ?_⟩
    have h0 := Int.emod_nonneg (cl * 48271) (Int.ne_of_gt p_big)
    refine ⟨(cl * 48271 % 2147483647).toNat, ?_⟩
    rw [Int.toNat_of_nonneg h0]
    rfl
  rintro σ1 H1 ⟨rfl, n, rfl⟩
  refine ⟨fun σ H' => H' = H1 ∧ ∃ t : Nat, t < 7 ∧ σ = [some (.int cl), some (.int c), some (.int n), some (.int t), none, none, none], ?_, ?_⟩
  · refine ⟨_, rfl, _, _, rfl, rfl, p_7, rfl, n % 7, Nat.mod_lt _ (by decide), ?_⟩
    rfl
  rintro σ2 H2 ⟨rfl, t, t7, rfl⟩
  refine ⟨fun σ H' => H' = H2 ∧ ∃ t : Nat, t < 7 ∧ (c = 1 → t < 3) ∧ (c = 2 → t ≠ 6) ∧ σ = [some (.int cl), some (.int c), some (.int n), some (.int t), none, none, none], ?_, ?_⟩
  · have mod : ∃ t' : Nat, t' < 7 ∧ (c = 1 → t' < 3) ∧ (c = 2 → t' ≠ 6) ∧ [some (V.int cl), some (V.int c), some (V.int n), some (V.int ((t : Int) % 3)), none, none, none] = [some (V.int cl), some (V.int c), some (V.int n), some (V.int t'), none, none, none] := ⟨t % 3, by omega, by omega, by omega, rfl⟩
    refine ⟨_, rfl, rfl, _, rfl, eqI (fun _ => ?_) (fun hc1 => ?_)⟩
    · exact ⟨_, rfl, _, _, rfl, rfl, p_3, rfl, mod⟩
    · refine ⟨_, rfl, rfl, _, rfl, eqI (fun _ => ⟨_, rfl, rfl, _, rfl, eqI (fun _ => ⟨_, rfl, _, _, rfl, rfl, p_3, rfl, mod⟩) (fun h6 => ⟨rfl, t, t7, fun z => absurd (by rw [z]; rfl) hc1, fun _ z => h6 (by rw [z]; rfl), rfl⟩)⟩) (fun hc2 => ⟨rfl, t, t7, fun z => absurd (by rw [z]; rfl) hc1, fun z => absurd (by rw [z]; rfl) hc2, rfl⟩)⟩
  rintro σ3 H3 ⟨rfl, t, t7, t1, t2', rfl⟩
  refine ⟨fun σ H' => H' = H3 ∧ ∃ a : Nat, a < c ∧ σ = [some (.int cl), some (.int c), some (.int n), some (.int t), some (.int a), none, none], ?_, ?_⟩
  · refine ⟨_, rfl, _, _, rfl, rfl, ⟨by decide, by decide⟩, _, rfl, _, _, rfl, rfl, cpos, rfl, n / 7 % c, Nat.mod_lt _ (by omega), ?_⟩
    rfl
  rintro σ4 H4 ⟨rfl, a, ac, rfl⟩
  refine ⟨_, rfl, rfl, _, rfl, eqI (fun _ => ?_) (fun n2 => ?_)⟩
  · refine ⟨_, rfl, _, rfl, _, _, rfl, rfl, ⟨by decide, by decide⟩, _, _, rfl, rfl, p_7, _, _, rfl, rfl, t3, fun r hr => ?_⟩
    refine kq r _ "turn" [(a : Int), ((1 + n / 49 % 7 : Nat) : Int)] (same_new hr _) ?_ (.inr ⟨.turn a (1 + n / 49 % 7), ⟨ac, by omega, by omega⟩, rfl, rfl⟩)
    rw [upd_same]
    rfl
  refine ⟨_, rfl, _, _, rfl, rfl, _, rfl, decI (fun l2 => ?_) (fun l2 => ?_)⟩
  · refine ⟨t2, fun lq hlq => ?_⟩
    have s1 := same_new hlq (.lst [.str "flip", .str "mix"])
    have tt : t = 0 ∨ t = 1 := by omega
    rcases tt with rfl | rfl
    · refine ⟨_, rfl, lq, _, _, .str "flip", rfl, rfl, SqL.of upd_same, rfl, _, rfl, t2, fun r hr => ?_⟩
      exact kq r _ "flip" [(a : Int)] (s1.trans (same_new hr _)) upd_same (.inr ⟨.flip a, ac, rfl, rfl⟩)
    · refine ⟨_, rfl, lq, _, _, .str "mix", rfl, rfl, SqL.of upd_same, rfl, _, rfl, t2, fun r hr => ?_⟩
      exact kq r _ "mix" [(a : Int)] (s1.trans (same_new hr _)) upd_same (.inl ⟨rfl, a, ac, rfl⟩)
  have t3' : 3 ≤ t := by omega
  have c2 : 2 ≤ c := by omega
  refine ⟨fun σ H' => Same H4 H' ∧ ∃ (l : Addr) (R : List Int), H' l = some (.lst (R.map V.int)) ∧ Rest c [a] R ∧ σ = [some (.int cl), some (.int c), some (.int n), some (.int t), some (.int a), some (.ref l), none], ?_, ?_⟩
  · refine ⟨_, rfl, _, rfl, by omega, by omega, fun acc hacc => ?_⟩
    rw [Int.toNat_natCast]
    refine lcF_range (n := c) (fr := [some (.int a)]) (fun i ys H' => Same H4 H' ∧ H' acc = some (.lst ys) ∧ ∃ R : List Int, ys = R.map V.int ∧ Rest i [a] R ∧ R.length ≤ i) (t64 (by omega)) ⟨same_new hacc _, upd_same, [], rfl, ⟨fun e he => (nomatch he), fun j hj => absurd hj (Nat.not_lt_zero _), by decide⟩, Nat.le_refl _⟩ ?_ (fun hm z => ?_) ?_
    · rintro i ys H5 N hi hl ⟨S5, a5, R, rfl, RR, lR⟩ kN
      have z0 : (0 : Int) + (i : Int) = (i : Int) := Int.zero_add _
      refine ⟨_, rfl, _, rfl, rfl, _, rfl, kN _ _ (fun hb => ?_) (fun hb => ?_)⟩
      · have ne : i ≠ a := fun z => by
          subst z
          rw [z0, decide_eq_true rfl] at hb
          cases hb
        refine ⟨_, rfl, a5, same_upd S5 hacc, upd_same, R ++ [(i : Int)], by rw [List.map_append, z0]; rfl, ⟨fun e he => ?_, fun j hj hn => ?_, by rw [List.length_append]; simp; omega⟩, by rw [List.length_append]; simp; omega⟩
        · rcases List.mem_append.mp he with h | h
          · obtain ⟨j, e1, e2, e3⟩ := RR.only e h
            exact ⟨j, e1, by omega, e3⟩
          · exact ⟨i, List.mem_singleton.mp h, by omega, by simp; exact ne⟩
        · by_cases e : j = i
          · rw [e]; exact List.mem_append_right _ (List.mem_singleton.mpr rfl)
          · exact List.mem_append_left _ (RR.all j (by omega) hn)
      · have eq : i = a := by
          rw [z0] at hb
          have : ((i : Int)) = (a : Int) := by
            have h2 : decide (V.int (i : Int) = V.int (a : Int)) = true := by simpa using hb
            exact V.int.inj (of_decide_eq_true h2)
          omega
        exact ⟨S5, a5, R, rfl, ⟨fun e he => by obtain ⟨j, e1, e2, e3⟩ := RR.only e he; exact ⟨j, e1, by omega, e3⟩, fun j hj hn => RR.all j (by have : j ≠ i := (fun z => hn (by simp; omega)); omega) hn, RR.len⟩, by omega⟩
    · obtain ⟨v, e, z⟩ := z
      exact ⟨v, e, hm _ _ z⟩
    · rintro ys H5 ⟨S5, a5, R, rfl, RR, lR⟩
      exact ⟨S5, acc, R, a5, RR, rfl⟩
  rintro σ5 H5 ⟨S5, l, R, hl, RR, rfl⟩
  have posR := RR.pos1 c2
  have SL : SqL K H5 l (R.map V.int) := SqL.of hl
  have lenR : (R.map V.int).length = R.length := List.length_map _
  refine ⟨fun σ H' => H' = H5 ∧ ∃ b : Nat, b < c ∧ b ≠ a ∧ σ = [some (.int cl), some (.int c), some (.int n), some (.int t), some (.int a), some (.ref l), some (.int b)], ?_, ?_⟩
  · obtain ⟨e, he, ae⟩ := pick (L := R) (i := ((n : Int) / 49) % ((R.map V.int).length : Int)) (Int.emod_nonneg _ (by rw [lenR]; omega)) (by rw [lenR]; exact Int.emod_lt_of_pos _ (by omega))
    obtain ⟨b, rfl, bc, ba⟩ := RR.only e he
    refine ⟨_, rfl, _, rfl, _, _, rfl, rfl, ⟨by decide, by decide⟩, _, rfl, l, _, rfl, .inl SL, _, _, rfl, rfl, (by rw [lenR]; omega), l, _, _, _, rfl, rfl, SL, ae, rfl, b, bc, by simpa using ba, rfl⟩
  rintro σ6 H6 ⟨rfl, b, bc, ba, rfl⟩
  refine ⟨_, rfl, _, _, rfl, rfl, _, rfl, decI (fun l6 => ?_) (fun l6 => ?_)⟩
  · refine ⟨t3, fun lq hlq => ?_⟩
    have s1 := same_new hlq (.lst [.str "if", .str "pair", .str "swap"])
    have tt : t = 3 ∨ t = 4 ∨ t = 5 := by omega
    rcases tt with rfl | rfl | rfl
    · refine ⟨_, rfl, _, _, rfl, rfl, lq, _, _, .str "if", rfl, rfl, SqL.of upd_same, rfl, _, rfl, _, rfl, t3, fun r hr => ?_⟩
      exact kq r _ "if" [(a : Int), (b : Int)] ((S5.trans s1).trans (same_new hr _)) upd_same (.inr ⟨.iff a b, ⟨ac, bc, Ne.symm ba⟩, rfl, rfl⟩)
    · refine ⟨_, rfl, _, _, rfl, rfl, lq, _, _, .str "pair", rfl, rfl, SqL.of upd_same, rfl, _, rfl, _, rfl, t3, fun r hr => ?_⟩
      exact kq r _ "pair" [(a : Int), (b : Int)] ((S5.trans s1).trans (same_new hr _)) upd_same (.inr ⟨.pair a b, ⟨ac, bc, Ne.symm ba⟩, rfl, rfl⟩)
    · refine ⟨_, rfl, _, _, rfl, rfl, lq, _, _, .str "swap", rfl, rfl, SqL.of upd_same, rfl, _, rfl, _, rfl, t3, fun r hr => ?_⟩
      exact kq r _ "swap" [(a : Int), (b : Int)] ((S5.trans s1).trans (same_new hr _)) upd_same (.inr ⟨.swap a b, ⟨ac, bc, Ne.symm ba⟩, rfl, rfl⟩)
  have c3 : 3 ≤ c := by omega
  refine ⟨fun σ H' => Same H6 H' ∧ ∃ (l : Addr) (R : List Int), H' l = some (.lst (R.map V.int)) ∧ Rest c [a, b] R ∧ σ = [some (.int cl), some (.int c), some (.int n), some (.int t), some (.int a), some (.ref l), some (.int b)], ?_, ?_⟩
  · refine ⟨_, rfl, l, rfl, ⟨_, SL⟩, fun acc hacc => ?_⟩
    have lr := RR.len
    refine lcF_ints (K := K) (l := l) (ns := R) (fr := [some (.int b)]) (fun e => !decide (V.int e = V.int b)) id (t64 (by omega)) hacc SL (fun e H7 N he S7 kN => ⟨_, rfl, _, rfl, rfl, _, rfl, kN⟩) (fun e H7 N he hp S7 kN => ⟨_, rfl, kN⟩) (fun H7 S7 a7 => ?_)
    exact ⟨S7, acc, _, a7, RR.filter fun _ => rfl, rfl⟩
  rintro σ7 H7 ⟨S7, l2, R2, hl2, RR2, rfl⟩
  have posR2 := RR2.pos2 c3
  have SL2 : SqL K H7 l2 (R2.map V.int) := SqL.of hl2
  have lenR2 : (R2.map V.int).length = R2.length := List.length_map _
  obtain ⟨e, he, ae⟩ := pick (L := R2) (i := ((n : Int) / 343) % ((R2.map V.int).length : Int)) (Int.emod_nonneg _ (by rw [lenR2]; omega)) (by rw [lenR2]; exact Int.emod_lt_of_pos _ (by omega))
  obtain ⟨d, rfl, dc, dn⟩ := RR2.only e he
  have dn' : d ≠ a ∧ d ≠ b := by simpa using dn
  refine ⟨_, rfl, _, rfl, _, rfl, _, rfl, _, _, rfl, rfl, ⟨by decide, by decide⟩, _, rfl, l2, _, rfl, .inl SL2, _, _, rfl, rfl, (by rw [lenR2]; omega), l2, _, _, _, rfl, rfl, SL2, ae, t4, fun r hr => ?_⟩
  exact kq r _ "cross" [(a : Int), (b : Int), (d : Int)] ((S5.trans S7).trans (same_new hr _)) upd_same (.inr ⟨.cross a b d, ⟨ac, bc, dc, Ne.symm ba, Ne.symm dn'.1, Ne.symm dn'.2⟩, rfl, rfl⟩)
end
end K36

set_option maxHeartbeats 4000000
namespace L2
open PySem PySem.Spec PyProof.Rows
/-! a def that is called with fewer arguments, or by a keyword -/
section
variable {X : Cx} {k : Nat} {x : Str} {ps ks : List Str} {sp : Sp} {p pos : Pos} {e : Expr} {es : List Expr} {t tk : TA} {dvs : List V} {gV : List V → List V → List V} {kws : List Keyword}
end
theorem range_mapV (xs : List V) (f : V → V) : (List.range xs.length).map (fun i => f (xs.getD i .non)) = xs.map f := by
  apply List.ext_getElem
  · simp
  · intro i h1 h2
    simp at h1
    simp [h1]
theorem lc_tupV {K : PySem.W.Frag} {a : Addr} {xs : List V} {te : TE} {fr : St} {H1 : Hp} {acc : Addr} {Q : VK} (f : V → V) (hl : SqT K H1 a xs) (hn : xs.length ≤ sizeLine) (hacc : H1 acc = none) (hs : ∀ v H (N : V → Hp → Prop), v ∈ xs → Same H1 H → N (f v) H → te (some v :: fr) H N)
    (hd : ∀ H2, Same H1 H2 → H2 acc = some (.lst (xs.map f)) → Q (.ref acc) H2) : LcW (Itt K a) (gName 0) te (none :: fr) H1 acc Q := by
  refine lc_pure (n := xs.length) (val := fun i => xs.getD i .non) (fun i => f (xs.getD i .non)) hn hacc (fun i H hi s => ?_) (fun H s => ⟨_, s.tup hl, by simp⟩) (fun i H N hi s kN => hs _ H N (by simp [hi]) s kN) (fun H2 s h => hd H2 s (by rw [h, range_mapV]))
  have e : xs[i]? = some (xs.getD i .non) := by simp [hi]
  refine ⟨⟨_, _, s.tup hl, e⟩, fun x H' y => ⟨y.1, ?_⟩⟩
  have := y.2 _ (s.tup hl)
  rw [e] at this
  exact (Option.some.inj this).symm
end L2
namespace Pt
open PySem PySem.Spec PyProof.Rows L2
def isI : V → Bool
  | .int _ => true
  | _ => false
structure Part (K : PySem.W.Frag) (H : Hp) (v : V) : Prop where
  ex : ∃ t b1 b2, TyOf K H v t ∧ PySem.W.kitOne K t (.type "int") = some b1 ∧ PySem.W.kitOne K t (.type "bool") = some b2 ∧ (b1 && !b2) = isI v
theorem kit_nt (K : PySem.W.Frag) : PySem.W.kitOne K (.type "NoneType") (.type "tuple") = some false := by with_unfolding_all rfl
theorem kit_bt (K : PySem.W.Frag) : PySem.W.kitOne K (.type "bool") (.type "tuple") = some false := by with_unfolding_all rfl
theorem kit_it (K : PySem.W.Frag) : PySem.W.kitOne K (.type "int") (.type "tuple") = some false := by with_unfolding_all rfl
theorem kit_st (K : PySem.W.Frag) : PySem.W.kitOne K (.type "str") (.type "tuple") = some false := by with_unfolding_all rfl
theorem kit_lt (K : PySem.W.Frag) : PySem.W.kitOne K (.type "list") (.type "tuple") = some false := by with_unfolding_all rfl
theorem kit_dt (K : PySem.W.Frag) : PySem.W.kitOne K (.type "dict") (.type "tuple") = some false := by with_unfolding_all rfl
theorem kit_tt (K : PySem.W.Frag) : PySem.W.kitOne K (.type "tuple") (.type "tuple") = some true := by unfold PySem.W.kitOne; rw [if_pos (by decide)]
section
variable {K : PySem.W.Frag} {H : Hp}
theorem Part.int (i : Int) : Part K H (.int i) := ⟨_, true, false, .int i, kit_ii K, kit_ib K, rfl⟩
theorem Part.bl (b : Bool) : Part K H (.bl b) := ⟨_, true, true, .bl b, by with_unfolding_all rfl, kit_bb K, rfl⟩
theorem Part.non : Part K H .non := ⟨_, false, false, .non, by with_unfolding_all rfl, by with_unfolding_all rfl, rfl⟩
theorem Part.str (x : Str) : Part K H (.str x) := ⟨_, false, false, .str x, by with_unfolding_all rfl, by with_unfolding_all rfl, rfl⟩
theorem Part.lst {a : Addr} {xs : List V} (e : H a = some (.lst xs)) : Part K H (.ref a) := ⟨_, false, false, .lst e, by with_unfolding_all rfl, by with_unfolding_all rfl, rfl⟩
theorem Part.tup {a : Addr} {xs : List V} (e : H a = some (.tup xs)) : Part K H (.ref a) := ⟨_, false, false, .tup e, by with_unfolding_all rfl, by with_unfolding_all rfl, rfl⟩
theorem Part.dic {a : Addr} {xs : List (Key × V)} (e : H a = some (.dK xs)) : Part K H (.ref a) := ⟨_, false, false, .dK e, by with_unfolding_all rfl, by with_unfolding_all rfl, rfl⟩
end
theorem Part.flat {K : PySem.W.Frag} {H : Hp} {v : V} (h : flatV v = true) : Part K H v := by
  cases v with
  | int i => exact Part.int i
  | bl b => exact Part.bl b
  | non => exact Part.non
  | str x => exact Part.str x
  | _ => cases h
def Thg (H : Hp) (v : V) : Prop := flatV v = true ∨ ∃ p, v = .ref p ∧ ((∃ xs, H p = some (.lst xs)) ∨ (∃ xs, H p = some (.tup xs)) ∨ ∃ xs, H p = some (.dK xs))
theorem Thg.same {H H' : Hp} {v : V} (t : Thg H v) (s : Same H H') : Thg H' v := by
  rcases t with t | ⟨p, e, ⟨xs, h⟩ | ⟨xs, h⟩ | ⟨xs, h⟩⟩
  · exact .inl t
  · exact .inr ⟨p, e, .inl ⟨xs, s _ _ h⟩⟩
  · exact .inr ⟨p, e, .inr (.inl ⟨xs, s _ _ h⟩)⟩
  · exact .inr ⟨p, e, .inr (.inr ⟨xs, s _ _ h⟩)⟩
theorem Thg.part {K : PySem.W.Frag} {H : Hp} {v : V} (t : Thg H v) : Part K H v := by
  rcases t with t | ⟨p, rfl, ⟨xs, h⟩ | ⟨xs, h⟩ | ⟨xs, h⟩⟩
  · exact Part.flat t
  · exact Part.lst h
  · exact Part.tup h
  · exact Part.dic h
def spIsWhole (K : PySem.W.Frag) : Sp := fun vs H Q _ => ∃ v, vs = [v] ∧ Part K H v ∧ Q (.bl (isI v)) H
end Pt

set_option maxHeartbeats 4000000
namespace K36
open PySem PySem.Spec PyProof.Rows L2 Am Pc Ba
open Pt hiding kit_tt
theorem TyOf.same {K : PySem.W.Frag} {H H' : Hp} {v : V} {t : Value} (ty : TyOf K H v t) (s : Same H H') : TyOf K H' v t := by
  cases ty with
  | non => exact .non
  | bl b => exact .bl b
  | int i => exact .int i
  | str x => exact .str x
  | flt x => exact .flt x
  | lst e => exact .lst (s _ _ e)
  | frz e => exact .frz (s _ _ e)
  | tup e => exact .tup (s _ _ e)
  | dK e => exact .dK (s _ _ e)
  | dT e => exact .dT (s _ _ e)
  | ins e cl ha hn htk hm => exact .ins (s _ _ e) cl ha hn htk hm
inductive NoForm (K : PySem.W.Frag) (H : Hp) : V → Prop where
  | odd {v : V} {t : Value} (ty : TyOf K H v t) (e : PySem.W.kitOne K t (.type "tuple") = some false) : NoForm K H v
  | nil {p : Addr} (e : H p = some (.tup [])) : NoForm K H (.ref p)
  | head {p : Addr} {x : V} {xs : List V} {t : Value} (e : H p = some (.tup (x :: xs))) (ty : TyOf K H x t) (e' : PySem.W.kitOne K t (.type "str") = some false) : NoForm K H (.ref p)
  | name {p : Addr} {nm : Str} {xs : List V} (e : H p = some (.tup (.str nm :: xs))) (z : numAt NB nm = none) : NoForm K H (.ref p)
  | size {p : Addr} {nm : Str} {xs : List V} {n : Int} (e : H p = some (.tup (.str nm :: xs))) (z : numAt NB nm = some (.int n)) (l : (xs.length : Int) ≠ n) : NoForm K H (.ref p)
  | part {p : Addr} {nm : Str} {xs : List V} (e : H p = some (.tup (.str nm :: xs))) (z : numAt NB nm = some (.int xs.length)) (l : xs.length ≤ 3) (all : ∀ x ∈ xs, Thg H x) (no : ∃ x ∈ xs, isI x = false) : NoForm K H (.ref p)
  | turn {p : Addr} {a k : Int} (e : H p = some (MvT "turn" [a, k])) (z : k < 1 ∨ 7 < k) : NoForm K H (.ref p)
theorem NoForm.same {K : PySem.W.Frag} {H H' : Hp} {v : V} (t : NoForm K H v) (s : Same H H') : NoForm K H' v := by
  cases t with
  | odd ty e => exact .odd (TyOf.same ty s) e
  | nil e => exact .nil (s _ _ e)
  | head e ty e' => exact .head (s _ _ e) (TyOf.same ty s) e'
  | name e z => exact .name (s _ _ e) z
  | size e z l => exact .size (s _ _ e) z l
  | part e z l all no => exact .part (s _ _ e) z l (fun x hx => (all x hx).same s) no
  | turn e z => exact .turn (s _ _ e) z
def spNoForm (K : PySem.W.Frag) : Sp := fun vs H Q _ => ∃ v : V, vs = [v] ∧ NoForm K H v ∧ ∀ H', Same H H' → Q (.bl false) H'
section
variable {P : Program} {w : World} {K : PySem.W.Frag} {mg : Str → Option Value} {base : Heap} {k : Nat} {h : Heap}
theorem ok_iswholeP (F : FunAt K "is_whole" (top 14) .none) (X : K.In h) (G : h.Ns mainGlobals mg) (B : Bs mg) : Cal P w K mg base (k + 1) "is_whole" ["thing"] (spIsWhole K) := by
  have nd := sc_iswhole.nd
  refine F.cal X G sc_iswhole (bnd1 fun _ _ _ _ _ _ _ => rfl) (fun vs H Q E h => ?_) (fun f cdv A outer s H vs Q E hr h => ?_)
  · obtain ⟨v, rfl, _⟩ := h; rfl
  obtain ⟨v, rfl, ⟨t, b1, b2, ty, e1, e2, e3⟩, q⟩ := h
  refine ⟨_, (@pss_one _ _ _ (ps_ret (pe_and (pe_callB call_isinst rfl B.isinstance boot_isinstance (pa_cons (pv 0) (pa_cons (pe_bltn (v := .ty "int") rfl B.int boot_int rfl) pa_nil))) (pe_one (pe_not (pe_callB call_isinst rfl B.isinstance boot_isinstance (pa_cons (pv 0) (pa_cons (pe_bltn (v := .ty "bool") rfl B.bool boot_bool rfl) pa_nil)))))))), ?_⟩
  try dsimp only [cxK]
  refine ⟨_, rfl, _, _, _, b1, rfl, ty, e1, _, rfl, blI (fun z => ?_) (fun z => ?_)⟩
  · subst z
    refine ⟨_, rfl, _, _, _, b2, rfl, ty, e2, _, rfl, ?_⟩
    rw [Bool.true_and] at e3
    rw [e3]
    exact q
  · subst z
    rw [Bool.false_and] at e3
    rw [e3]
    exact q
theorem ok_noform (F : FunAt K "has_move_form" (top 34) .none) (X : K.In h) (G : h.Ns mainGlobals mg) (B : Bs mg) {aN : Addr} (gN : mg "NUMBERS_BEHIND" = some (.ref aN)) (DN : KDic K w.params aN NB) (c_is_whole : Cal P w K mg base k "is_whole" ["thing"] (spIsWhole K)) :
    Cal P w K mg base (k + 1) "has_move_form" ["thing"] (spNoForm K) := by
  have nd := sc_form.nd
  refine F.cal X G sc_form (bnd1 fun _ _ _ _ _ _ _ => rfl) (fun vs H Q E h => ?_) (fun f cdv A outer s H vs Q E hr h => ?_)
  · obtain ⟨v, rfl, _⟩ := h; rfl
  obtain ⟨v, rfl, NF, kq⟩ := h
  refine ⟨_, (@pss_cons _ _ _ _ _ (ps_if (PW.pt (pw_or (pt_not (pt_val (pe_callB call_isinst rfl B.isinstance boot_isinstance (pa_cons (pv 0) (pa_cons (pe_bltn (v := .ty "tuple") rfl B.tuple boot_tuple rfl) pa_nil))))) (pw_or1 (pt_cmpR op_eq (pe_callB call_len_seq rfl B.len PySem.boot_len (pa_cons (pv 0) pa_nil)) pe_int (nomark _)))))
      (@pss_one _ _ _ (ps_ret pe_bl))
      pss_nil)
    (@pss_cons _ _ _ _ _ (ps_if (PW.pt (pw_or (pt_not (pt_val (pe_callB call_isinst rfl B.isinstance boot_isinstance (pa_cons (pe_ix ix_tup (pv 0) pe_int (fun _ _ => rfl)) (pa_cons (pe_bltn (v := .ty "str") rfl B.str boot_str rfl) pa_nil))))) (pw_or1 (pt_cmp (pc_knotin DN (pe_ix ix_tup (pv 0) pe_int (fun _ _ => rfl)) (pe_glob (v := .ref aN) rfl gN rfl))))))
      (@pss_one _ _ _ (ps_ret pe_bl))
      pss_nil)
    (@pss_cons _ _ _ _ _ (ps_if (pt_cmpR op_ne (pe_callB call_len_seq rfl B.len PySem.boot_len (pa_cons (pv 0) pa_nil)) (pe_op op_add pe_int (pe_kget DN (pe_glob (v := .ref aN) rfl gN rfl) (pe_ix ix_tup (pv 0) pe_int (fun _ _ => rfl)) (fun _ _ => rfl))) (nomark _))
      (@pss_one _ _ _ (ps_ret pe_bl))
      pss_nil)
    (@pss_cons _ _ _ _ _ (ps_if (pt_not (pt_val (pe_callB (call_allL rfl) rfl B.all boot_all (pa_cons (pe_lc rfl (LcOk.of (Nc := ["number"]) (mp := [none]) (by kernel_rfl)) (pi_tup (pe_slice sl_tupA (pv 0) (po_some pe_int) po_none)) (fun _ _ _ _ => (pg_name (i := 0) (show (["number"] : List Str).Nodup by decide +kernel) rfl (Or.inl rfl))) (fun _ _ _ _ => (pe_cal c_is_whole hr rfl (pa_cons (pv 0) pa_nil)))) pa_nil))))
      (@pss_one _ _ _ (ps_ret pe_bl))
      pss_nil)
    (@pss_one _ _ _ (ps_ret (pe_or (pe_cmpR op_ne (pe_ix ix_tup (pv 0) pe_int (fun _ _ => rfl)) pe_str (nomark _)) (pe_one (pe_and (pe_cmpR op_ge (pe_ix ix_tup (pv 0) pe_int (fun _ _ => rfl)) pe_int (nomark _)) (pe_one (pe_cmpR op_le (pe_ix ix_tup (pv 0) pe_int (fun _ _ => rfl)) pe_int (nomark _)))))))))))), ?_⟩
  try dsimp only [cxK]
  have s0 := Same.refl H
  -- a tuple with something in it
  cases NF with
  | odd ty e => exact ⟨_, rfl, _, _, _, false, rfl, ty, e, _, rfl, iteT (kq _ s0)⟩
  | @nil p e => exact ⟨_, rfl, _, _, _, true, rfl, TyOf.tup e, kit_tt K, _, rfl, iteF ⟨_, rfl, p, _, rfl, .inr (SqT.of e), rfl, _, rfl, eqI (fun _ => kq _ s0) (fun z => absurd rfl z)⟩⟩
  | @head p x xs t e ty e' =>
    refine ⟨_, rfl, _, _, _, true, rfl, TyOf.tup e, kit_tt K, _, rfl, iteF ⟨_, rfl, p, _, rfl, .inr (SqT.of e), rfl, _, rfl, eqI (fun z => absurd z (by simp; omega)) (fun _ => ?_)⟩⟩
    exact ⟨_, rfl, p, _, _, x, rfl, rfl, SqT.of e, at0, _, _, _, false, rfl, ty, e', _, rfl, iteT (kq _ s0)⟩
  | @name p nm xs e z =>
    refine ⟨_, rfl, _, _, _, true, rfl, TyOf.tup e, kit_tt K, _, rfl, iteF ⟨_, rfl, p, _, rfl, .inr (SqT.of e), rfl, _, rfl, eqI (fun z => absurd z (by simp; omega)) (fun _ => ?_)⟩⟩
    refine ⟨_, rfl, p, _, _, .str nm, rfl, rfl, SqT.of e, at0, _, _, _, true, rfl, TyOf.str nm, kit_ss K, _, rfl, iteF ⟨_, rfl, p, _, _, .str nm, rfl, rfl, SqT.of e, at0, nm, rfl, _, rfl, ?_⟩⟩
    rw [z]
    exact iteT (kq _ s0)
  | @size p nm xs n e z l =>
    refine ⟨_, rfl, _, _, _, true, rfl, TyOf.tup e, kit_tt K, _, rfl, iteF ⟨_, rfl, p, _, rfl, .inr (SqT.of e), rfl, _, rfl, eqI (fun z => absurd z (by simp; omega)) (fun _ => ?_)⟩⟩
    refine ⟨_, rfl, p, _, _, .str nm, rfl, rfl, SqT.of e, at0, _, _, _, true, rfl, TyOf.str nm, kit_ss K, _, rfl, iteF ⟨_, rfl, p, _, _, .str nm, rfl, rfl, SqT.of e, at0, nm, rfl, _, rfl, ?_⟩⟩
    rw [z]
    exact iteF ⟨_, rfl, p, _, rfl, .inr (SqT.of e), _, rfl, p, _, _, .str nm, rfl, rfl, SqT.of e, at0, nm, _, rfl, z, _, _, rfl, rfl, rfl, _, rfl, neI (fun _ => kq _ s0) (fun q => absurd q (by simp; omega))⟩
  | @part p nm xs e z l all no =>
    refine ⟨_, rfl, _, _, _, true, rfl, TyOf.tup e, kit_tt K, _, rfl, iteF ⟨_, rfl, p, _, rfl, .inr (SqT.of e), rfl, _, rfl, eqI (fun z => absurd z (by simp; omega)) (fun _ => ?_)⟩⟩
    refine ⟨_, rfl, p, _, _, .str nm, rfl, rfl, SqT.of e, at0, _, _, _, true, rfl, TyOf.str nm, kit_ss K, _, rfl, iteF ⟨_, rfl, p, _, _, .str nm, rfl, rfl, SqT.of e, at0, nm, rfl, _, rfl, ?_⟩⟩
    rw [z]
    refine iteF ⟨_, rfl, p, _, rfl, .inr (SqT.of e), _, rfl, p, _, _, .str nm, rfl, rfl, SqT.of e, at0, nm, _, rfl, z, _, _, rfl, rfl, rfl, _, rfl, neI (fun q => absurd (by simp; omega) q) (fun _ => ?_)⟩
    refine ⟨_, rfl, _, rfl, p, _, rfl, SqT.of e, .inr ⟨fun c => absurd c.1 (by rw [one_ix]; decide), fun r hr => ?_⟩⟩
    rw [cut_one]
    have s1 := same_new hr (.tup xs)
    refine ⟨r, rfl, ⟨_, SqT.of upd_same⟩, fun acc hacc => ?_⟩
    refine lc_tupV (K := K) (fun v => .bl (isI v)) (SqT.of upd_same) (t64 (by omega)) hacc (fun v H2 N hv S2 kN => ⟨_, rfl, v, rfl, (((all v hv).same s1).same S2).part, kN⟩) (fun H3 S3 a3 => ?_)
    have e3 : xs.map (fun v => V.bl (isI v)) = (xs.map isI).map V.bl := by rw [List.map_map]; rfl
    rw [e3] at a3
    have al : (xs.map isI).all id = false := by
      obtain ⟨x, hx, ex⟩ := no
      rw [List.all_eq_false]
      exact ⟨false, List.mem_map.mpr ⟨x, hx, ex⟩, by simp⟩
    refine ⟨acc, _, rfl, SqL.of a3, _, rfl, ?_⟩
    rw [al]
    exact iteT (kq _ (s1.trans S3))
  | @turn p a kk e z =>
    have nt : numAt NB "turn" = some (.int 2) := by decide
    refine ⟨_, rfl, _, _, _, true, rfl, TyOf.tup e, kit_tt K, _, rfl, iteF ⟨_, rfl, p, _, rfl, .inr (SqT.of e), rfl, _, rfl, eqI (fun z => absurd z (by simp)) (fun _ => ?_)⟩⟩
    refine ⟨_, rfl, p, _, _, .str "turn", rfl, rfl, SqT.of e, at0, _, _, _, true, rfl, TyOf.str "turn", kit_ss K, _, rfl, iteF ⟨_, rfl, p, _, _, .str "turn", rfl, rfl, SqT.of e, at0, "turn", rfl, _, rfl, ?_⟩⟩
    rw [nt]
    refine iteF ⟨_, rfl, p, _, rfl, .inr (SqT.of e), _, rfl, p, _, _, .str "turn", rfl, rfl, SqT.of e, at0, "turn", _, rfl, nt, _, _, rfl, rfl, rfl, _, rfl, neI (fun q => absurd rfl q) (fun _ => ?_)⟩
    refine ⟨_, rfl, _, rfl, p, _, rfl, SqT.of e, .inr ⟨fun c => absurd c.1 (by rw [one_ix]; decide), fun r hr => ?_⟩⟩
    rw [cut_one]
    have s1 := same_new hr (.tup ([a, kk].map V.int))
    refine ⟨r, rfl, ⟨_, SqT.of upd_same⟩, fun acc hacc => ?_⟩
    refine lc_tupM (K := K) (ns := [a, kk]) (fun _ => .bl true) (SqT.of upd_same) (t64 (by simp)) hacc (fun n H2 N hn S2 kN => ⟨_, rfl, .int n, rfl, Part.int n, kN⟩) (fun H3 S3 a3 => ?_)
    have S03 := s1.trans S3
    have SP3 : SqT K H3 p (.str "turn" :: [a, kk].map V.int) := SqT.of (S03 _ _ e)
    refine ⟨acc, [true, true], rfl, SqL.of a3, _, rfl, iteF ?_⟩
    refine ⟨_, rfl, p, _, _, .str "turn", rfl, rfl, SP3, at0, rfl, _, rfl, ?_⟩
    show if (!decide (V.str "turn" = V.str "turn")) = true then _ else _
    rw [decide_eq_true rfl]
    refine iteF ⟨_, rfl, p, _, _, .int kk, rfl, rfl, SP3, rfl, _, _, rfl, rfl, _, rfl, decI (fun k1 => ?_) (fun k1 => ?_)⟩
    · refine ⟨_, rfl, p, _, _, .int kk, rfl, rfl, SP3, rfl, _, _, rfl, rfl, ?_⟩
      show Q (.bl (decide (kk ≤ 7))) H3
      rw [decide_eq_false (by omega)]
      exact kq _ S03
    · exact kq _ S03
end
end K36

set_option maxHeartbeats 4000000
/-! an exception leaves a def: what is kept, exactly -/
namespace Ex
open PySem PySem.Spec PyProof.Rows
def Tr (e T : Addr) (cls fl : Value) (h : Heap) : Prop := ∃ oe vs oT ts, h.get? e = some oe ∧ (oe.cls = cls ∧ oe.dict = none) ∧ oe.data = .fields vs ∧ vs[1]? = some (.ref T) ∧ T ≠ e ∧ h.get? T = some oT ∧ oT.data = .fields ts ∧ ts[3]? = some fl ∧ 3 < ts.size
structure Kp (fs xs : List Addr) (h h' : Heap) : Prop where
  keep : ∀ b o, h.get? b = some o → b ∉ fs → b ∉ xs → h'.get? b = some o
  slot : ∀ b o, h.get? b = some o → b ∉ xs → ∃ sl, h'.get? b = some { o with slots := sl }
  there : ∀ b o, h.get? b = some o → ∃ o', h'.get? b = some o'
/-! what is kept, put together from single changes -/
section
variable {fs xs : List Addr} {h h1 h2 : Heap}
theorem Kp.trans (p : Kp fs xs h h1) (q : Kp fs xs h1 h2) : Kp fs xs h h2 where
  keep := fun b o e n m => q.keep b o (p.keep b o e n m) n m
  slot := fun b o e m => by
    obtain ⟨sl, e1⟩ := p.slot b o e m
    obtain ⟨sl2, e2⟩ := q.slot b _ e1 m
    exact ⟨sl2, e2⟩
  there := fun b o e => by
    obtain ⟨o1, e1⟩ := p.there b o e
    exact q.there b o1 e1
theorem Kp.same (k : ∀ b o, h.get? b = some o → h1.get? b = some o) : Kp fs xs h h1 := ⟨fun b o e _ _ => k b o e, fun b o e _ => ⟨o.slots, k b o e⟩, fun b o e => ⟨o, k b o e⟩⟩
theorem Kp.new (o : Obj) : Kp fs xs h (h.push o) := .same fun _ _ e => Heap.get?_push_of_some _ e
theorem Kp.slots (p : Heap.SlotsOnly fs h h1) : Kp fs xs h h1 where
  keep := fun b o e n _ => (p.2.1 b n).trans e
  slot := fun b o e _ => p.2.2 b o e
  there := fun b o e => let ⟨_, q⟩ := p.2.2 b o e; ⟨_, q⟩
theorem Kp.field {a : Addr} {o : Obj} {vs : Array Value} {f : Array Value → Array Value} (ha : a ∈ xs) (e : h.get? a = some o) (d : o.data = .fields vs) : Kp fs xs h (h.update a (Obj.mapFields f)) := by
  have k : ∀ b u, b ≠ a → h.get? b = some u → (h.update a (Obj.mapFields f)).get? b = some u := fun b u n q => (Heap.get?_update_other _ _ n.symm).trans q
  have at_a := Heap.get?_update_self (Obj.mapFields f) e (Obj.isFreed_of_fields (Obj.data_mapFields d f))
  exact ⟨fun b u q _ m => k b u (fun z => m (z ▸ ha)) q, fun b u q m => ⟨u.slots, k b u (fun z => m (z ▸ ha)) q⟩, fun b u q => (Classical.em (b = a)).elim (fun z => ⟨o.mapFields f, by rw [z]; exact at_a⟩) fun z => ⟨u, k b u z q⟩⟩
theorem Kp.fresh (p : Kp fs xs h h1) {b : Addr} (e : h1.get? b = none) : h.get? b = none := by
  cases q : h.get? b with
  | none => rfl
  | some o => obtain ⟨o', e'⟩ := p.there b o q; rw [e] at e'; cases e'
end
def Rec (h : Heap) (a : Addr) (o : Obj) (vs : Array Value) : Prop := h.get? a = some o ∧ o.data = .fields vs
theorem Rec.put {h : Heap} {a : Addr} {o : Obj} {vs : Array Value} (r : Rec h a o vs) (f : Array Value → Array Value) : Rec (h.update a (Obj.mapFields f)) a (o.mapFields f) (f vs) :=
  ⟨Heap.get?_update_self _ r.1 (Obj.isFreed_of_fields (Obj.data_mapFields r.2 f)), Obj.data_mapFields r.2 f⟩
theorem Rec.off {h : Heap} {a b : Addr} {o : Obj} {vs : Array Value} (r : Rec h a o vs) (n : a ≠ b) (f : Obj → Obj) : Rec (h.update b f) a o vs := ⟨(Heap.get?_update_other _ _ n.symm).trans r.1, r.2⟩
theorem put_cls (o : Obj) (f : Array Value → Array Value) : (o.mapFields f).cls = o.cls ∧ (o.mapFields f).dict = o.dict := by
  obtain ⟨c, d, dt, sl⟩ := o
  cases dt <;> exact ⟨rfl, rfl⟩
theorem Tr.of {h : Heap} {e T : Addr} {oe oT : Obj} {vs ts : Array Value} {cls fl : Value} (r : Rec h e oe vs) (c : oe.cls = cls ∧ oe.dict = none) (r' : Rec h T oT ts) (n : T ≠ e) (v : vs[1]? = some (.ref T)) (t : ts[3]? = some fl) (z : 3 < ts.size) : Tr e T cls fl h :=
  ⟨oe, vs, oT, ts, r.1, c, r.2, v, n, r'.1, r'.2, t, z⟩
section
variable {M : Model} {A : Around} {E : Value → Shared → Prop} {s : Shared}
theorem hung {base : Heap} {env : Env} {outer : List Env} {L e : Addr} {oe : Obj} {vs : Array Value} {head : Value} {b : Bool} {xs : List Addr} {Q : Unit → Shared → Prop}
    (ha : A.frames = some (env :: outer)) (hf : s.heap.FunFrames base (env :: outer)) (hl : env.frame = some L) (r : Rec s.heap e oe vs) (hd : oe.dict = none) (two : 1 < vs.size) (he : e ∈ xs)
    (k : ∀ h' T, s.heap.get? T = none → Tr e T oe.cls .none h' → Kp ((env :: outer).filterMap (·.frame)) xs s.heap h' → Q () { s with heap := h' }) :
    wpAny M A (do let a ← frameOf env; let pl ← entryPlaceOf L b; let t ← EntryCells.newEntry head a .none (rawInt L) .none pl; setField (.ref e) 1 t) (fun _ s' => wpAny M A (setFlight (.ref e) none) Q E s') E s := by
  have nf : e ∉ (env :: outer).filterMap (·.frame) := fun z => by
    obtain ⟨_, o, q, n⟩ := hf.mem z
    exact n vs (Option.some.inj (r.1.symm.trans q) ▸ r.2)
  refine wpAny_bind (wpAny_frameOf_fun ha hf hl fun h1 sl => wpAny_bind (wpAny_entryPlaceOf fun pl place => wpAny_bind ?_))
  have p1 : Kp ((env :: outer).filterMap (·.frame)) xs s.heap h1 := .slots sl
  have r1 : Rec h1 e oe vs := ⟨(sl.2.1 e nf).trans r.1, r.2⟩
  have ne : h1.objs.size ≠ e := Nat.ne_of_gt (Heap.lt_size r1.1)
  have new : s.heap.get? h1.objs.size = none := p1.fresh (Heap.get?_none_of_le (Nat.le_refl _))
  simp only [EntryCells.newEntry, newFields]
  refine wpAny_newObj_type ?_ (place.sizeOk5 _ _ _ _ _)
  obtain ⟨o, ho, ts, d, t3, tz⟩ : ∃ o : Obj, o = { cls := .type "traceback", dict := none, data := .fields ([head, .ref L, .none, rawInt L, .none] ++ (if pl.isEmpty then List.replicate 6 Value.none else pl)).toArray } ∧ ∃ ts : Array Value, o.data = .fields ts ∧ ts[3]? = some (rawInt L) ∧ 3 < ts.size := by
    refine ⟨_, rfl, _, rfl, ?_, ?_⟩
    · rcases place with rfl | ⟨_, _, _, _, _, _, _, rfl⟩ <;> simp
    · simp only [List.size_toArray, List.length_append, List.length_cons, List.length_nil]; omega
  rw [← ho]
  have r2 : Rec (h1.push o) e oe vs := ⟨Heap.get?_push_of_some _ r1.1, r1.2⟩
  have n2 : Rec (h1.push o) h1.objs.size o ts := ⟨Heap.get?_push_size _ (Obj.isFreed_of_fields d), d⟩
  have p2 := p1.trans (Kp.new o)
  refine wpAny_setField r2.1 r2.2 two ?_
  have r3 := r2.put (·.setIfInBounds 1 (Value.ref h1.objs.size))
  have n3 := n2.off ne (Obj.mapFields (·.setIfInBounds 1 (Value.ref h1.objs.size)))
  have p3 := p2.trans (Kp.field (f := (·.setIfInBounds 1 (Value.ref h1.objs.size))) he r2.1 r2.2)
  have v1 : (vs.setIfInBounds 1 (Value.ref h1.objs.size))[1]? = some (.ref h1.objs.size) := by simp [two]
  refine wpAny_setFlight_none r3.1 r3.2 v1 n3.1 n3.2 tz (k _ h1.objs.size new ?_ ?_)
  · have c := put_cls oe (·.setIfInBounds 1 (Value.ref h1.objs.size))
    exact Tr.of (r3.off ne.symm _) ⟨c.1, c.2.trans hd⟩ (n3.put _) ne v1 (by simp [tz]) (by simpa using tz)
  · have q : ∀ b u, b ≠ h1.objs.size → Heap.get? ((h1.push o).update e (Obj.mapFields (·.setIfInBounds 1 (Value.ref h1.objs.size)))) b = some u → Heap.get? (((h1.push o).update e (Obj.mapFields (·.setIfInBounds 1 (Value.ref h1.objs.size)))).update h1.objs.size (Obj.mapFields (·.setIfInBounds 3 .none))) b = some u := fun b u n z => (Heap.get?_update_other _ _ n.symm).trans z
    have old : ∀ b u, s.heap.get? b = some u → b ≠ h1.objs.size := fun b u z w => by rw [w, new] at z; cases z
    exact ⟨fun b u z n m => q b u (old b u z) (p3.keep b u z n m), fun b u z m => let ⟨sl, w⟩ := p3.slot b u z m; ⟨sl, q b _ (old b u z) w⟩, fun b u z => let ⟨u', w⟩ := p3.there b u z; ⟨u', q b u' (old b u z) w⟩⟩
theorem flight {e T : Addr} {cls fl : Value} {Q : Unit → Shared → Prop} (t : Tr e T cls fl s.heap) (k : ∀ h', Tr e T cls .none h' → (∀ b, b ≠ T → h'.get? b = s.heap.get? b) → Q () { s with heap := h' }) : wpAny M A (setFlight (.ref e) none) Q E s := by
  obtain ⟨oe, vs, oT, ts, e1, c, e2, v, n, t1, t2, -, z⟩ := t
  have r : Rec s.heap e oe vs := ⟨e1, e2⟩
  have r' : Rec s.heap T oT ts := ⟨t1, t2⟩
  exact wpAny_setFlight_none e1 e2 v t1 t2 z (k _ (Tr.of (r.off n.symm _) c (r'.put _) n v (by simp [z]) (by simpa using z)) fun b m => Heap.get?_update_other _ _ m.symm)
theorem leave_first {base : Heap} {env : Env} {outer : List Env} {L e : Addr} {oe : Obj} {vs : Array Value} {Q : Unit → Shared → Prop}
    (ha : A.frames = some (env :: outer)) (hf : s.heap.FunFrames base (env :: outer)) (hl : env.frame = some L) (e1 : s.heap.get? e = some oe) (hd : oe.dict = none) (e2 : oe.data = .fields vs) (one : vs[1]? = some .none)
    (k : ∀ h' T, s.heap.get? T = none → Tr e T oe.cls .none h' → Kp ((env :: outer).filterMap (·.frame)) [e] s.heap h' → Q () { s with heap := h' }) : wpAny M A (leaving env (.ref e)) Q E s := by
  have r : Rec s.heap e oe vs := ⟨e1, e2⟩
  unfold leaving noteFrame
  simp only [hl]
  exact wpAny_bind (wpAny_bind (wpAny_field e1 e2 one (hung ha hf hl r hd (Array.getElem?_eq_some_iff.mp one).1 (by simp) k)))
theorem note_next {base : Heap} {env : Env} {outer : List Env} {L e T0 : Addr} {cls : Value} {Q : Unit → Shared → Prop}
    (ha : A.frames = some (env :: outer)) (hf : s.heap.FunFrames base (env :: outer)) (hl : env.frame = some L) (ht : Tr e T0 cls .none s.heap)
    (k : ∀ h' T, s.heap.get? T = none → Tr e T cls .none h' → Kp ((env :: outer).filterMap (·.frame)) [e, T0] s.heap h' → Q () { s with heap := h' }) : wpAny M A (noteFrame (.ref e) env) (fun _ s' => wpAny M A (setFlight (.ref e) none) Q E s') E s := by
  obtain ⟨oe, vs, oT, ts, e1, ⟨c, hd⟩, e2, one, n, t1, t2, three, room⟩ := ht
  have r : Rec s.heap e oe vs := ⟨e1, e2⟩
  have r' : Rec s.heap T0 oT ts := ⟨t1, t2⟩
  have p : Kp ((env :: outer).filterMap (·.frame)) [e, T0] s.heap (s.heap.update T0 (Obj.mapFields (·.setIfInBounds 3 Value.none))) := .field (by simp) t1 t2
  have fr : Heap.FunFrames (s.heap.update T0 (Obj.mapFields (·.setIfInBounds 3 Value.none))) base (env :: outer) := hf.of_keeps fun b o q nf => ⟨o, (Heap.get?_update_other _ _ fun z => by
    rw [← z, t1] at q; exact nf ts (Option.some.inj q ▸ t2)).trans q, rfl⟩
  unfold noteFrame
  simp only [hl]
  refine wpAny_bind (wpAny_field e1 e2 one ?_)
  simp only [show (Value.ref T0 != Value.none) = true from rfl, if_true]
  refine wpAny_bind (wpAny_field t1 t2 three ?_)
  simp only [show (Value.none == rawInt L) = false from rfl, Bool.false_eq_true, if_false]
  refine wpAny_bind (wpAny_setField t1 t2 room ?_)
  refine hung (s := { s with heap := s.heap.update T0 (Obj.mapFields (·.setIfInBounds 3 Value.none)) }) (xs := [e, T0]) ha fr hl (r.off n.symm _) hd (Array.getElem?_eq_some_iff.mp one).1 (.head _) fun h' T nw tr q => ?_
  rw [c] at tr
  exact k h' T (p.fresh nw) tr (p.trans q)
theorem leave_next {base : Heap} {env : Env} {outer : List Env} {L e T0 : Addr} {cls : Value} {Q : Unit → Shared → Prop}
    (ha : A.frames = some (env :: outer)) (hf : s.heap.FunFrames base (env :: outer)) (hl : env.frame = some L) (ht : Tr e T0 cls .none s.heap)
    (k : ∀ h' T, s.heap.get? T = none → Tr e T cls .none h' → Kp ((env :: outer).filterMap (·.frame)) [e, T0] s.heap h' → Q () { s with heap := h' }) : wpAny M A (leaving env (.ref e)) Q E s :=
  wpAny_bind (note_next ha hf hl ht k)
end
end Ex
namespace L2
open PySem PySem.Spec PyProof.Rows Ex
def CX1 (P : Program) (w : World) : CXT := fun outer H s E e s' => ∃ (a T : Addr) (cls : Value) (H' : Hp), e = .ref a ∧ s'.os = s.os ∧ AllBare s'.gens ∧ Un (frs outer) [] H H' s.heap s'.heap ∧ HOk P w H' s'.heap ∧
  Tr a T cls .none s'.heap ∧ s.heap.get? a = none ∧ s.heap.get? T = none ∧ H' a = none ∧ H' T = none ∧ E cls none H'
end L2

set_option maxHeartbeats 4000000
namespace L2
open PySem PySem.Spec PyProof.Rows Ex
theorem ObjOk.get {P : Program} {w : World} {H : Hp} {h : Heap} {a : Addr} {o : HO} (x : ObjOk P w H h a o) : ∃ ob, h.get? a = some ob := by
  cases o with
  | lst xs => obtain ⟨_, _, _, _, e⟩ := x; exact ⟨_, e⟩
  | tup xs => obtain ⟨_, _, _, ob, e, _⟩ := x; exact ⟨_, e⟩
  | dK kvs => obtain ⟨_, _, _, _, o, _, _, e, _⟩ := x; exact ⟨_, e⟩
  | dT kvs => obtain ⟨_, _, _, _, o, _, _, e, _⟩ := x; exact ⟨_, e⟩
  | set S n => obtain ⟨o, _, _, _, e, _⟩ := x; exact ⟨_, e⟩
  | ins C dx fs => obtain ⟨_, _, _, e, _⟩ := x; exact ⟨_, e⟩
  | own y => obtain ⟨_, e⟩ := x; exact ⟨_, e⟩
  | xd fs => obtain ⟨_, ⟨_, _, _, e, _⟩, _⟩ := x; exact ⟨_, e⟩
  | rng lo hi => obtain ⟨_, _, _, e⟩ := x; exact ⟨_, e⟩
  | frz ob u => obtain ⟨e, _⟩ := x; exact ⟨_, e⟩
  | tbl ps => exact ⟨_, x⟩
  | met f y => exact ⟨_, x⟩
  | ext φ => obtain ⟨_, ⟨_, e⟩, _⟩ := x; exact ⟨_, e⟩
structure Flies (X : Cx) (E : XK) : Prop where
  xe : ∀ e s', wpAny (model X.prog X.w) X.A (leaving X.env e) (fun _ s'' => CX1 X.prog X.w X.outer X.H₀ X.s₀ E e s'') (fun e' s'' => CX1 X.prog X.w X.outer X.H₀ X.s₀ E e' s'') s' → X.xe e s'
  stk : X.stack = X.env :: X.outer ∧ X.env.frame = some X.env.locals
  ex : X.ex = []
section
variable {X : Cx} {pins : List (Addr × Obj)} {σ : St} {H : Hp} {s : Shared} {E : XK}
theorem Inv.new0 (I : Inv X pins σ H s) (F : Flies X E) {b : Addr} (hb : s.heap.get? b = none) : X.s₀.heap.get? b = none := by
  cases q : X.s₀.heap.get? b with
  | none => rfl
  | some o =>
    obtain ⟨o', e'⟩ := I.base.there b o q (by rw [F.ex]; intro z; cases z)
    rw [hb] at e'; cases e'
theorem Inv.newH (I : Inv X pins σ H s) {b : Addr} (hb : s.heap.get? b = none) : H b = none := by
  cases q : H b with
  | none => rfl
  | some o =>
    obtain ⟨ob, e'⟩ := ObjOk.get (I.hok b o q)
    rw [hb] at e'; cases e'
theorem Inv.left {h1 h' : Heap} {e T : Addr} {xs : List Addr} {cls : Value} (I : Inv X pins σ H s) (F : Flies X E) (k1 : ∀ b o, s.heap.get? b = some o → h1.get? b = some o) (hxs : ∀ b ∈ xs, X.s₀.heap.get? b = none ∧ H b = none)
    (kp : Kp ((X.env :: X.outer).filterMap (·.frame)) xs h1 h') (he : X.s₀.heap.get? e = none ∧ H e = none) (hT : X.s₀.heap.get? T = none ∧ H T = none) (tr : Tr e T cls .none h') (q : E cls none H) : CX1 X.prog X.w X.outer X.H₀ X.s₀ E (.ref e) { s with heap := h' } := by
  have hfs : ∀ b, b ∈ (X.env :: X.outer).filterMap (·.frame) → b = X.env.locals ∨ b ∈ X.fs := fun b hb => by
    have := I.stkSub b (by rw [F.stk.1]; exact hb)
    exact List.mem_cons.mp this
  have old : ∀ b o, X.s₀.heap.get? b = some o → b ≠ X.env.locals := fun b o hb z => by
    have h1 := Heap.lt_size hb
    have h2 := I.ok.above
    rw [z] at h1
    exact Nat.lt_irrefl _ (Nat.lt_of_lt_of_le h1 h2)
  have nex : ∀ b, b ∉ X.ex := fun b hb => by rw [F.ex] at hb; cases hb
  have nxs : ∀ b o, X.s₀.heap.get? b = some o → b ∉ xs := fun b o hb hm => by rw [(hxs b hm).1] at hb; cases hb
  refine ⟨e, T, cls, H, rfl, I.os, I.bare, ⟨fun b o hb hn hf _ => ?_, fun b o hb hn hf _ => ?_, fun b o hb hn _ => I.base.free b o hb hn (nex b), fun b o hb _ => ?_, I.base.tups, I.base.frzs, I.base.tbls⟩, fun a o ha => ?_, tr, he.1, hT.1, he.2, hT.2, q⟩
  · have q1 := I.base.keep b o hb hn hf (nex b)
    exact kp.keep b o (k1 b o q1) (fun hm => (hfs b hm).elim (old b o hb) hf) (nxs b o hb)
  · obtain ⟨sl, q1⟩ := I.base.slot b o hb hn hf (nex b)
    obtain ⟨sl2, q2⟩ := kp.slot b _ (k1 b _ q1) (nxs b o hb)
    exact ⟨sl2, q2⟩
  · obtain ⟨o', q1⟩ := I.base.there b o hb (nex b)
    exact kp.there b o' (k1 b o' q1)
  · refine (I.hok a o ha).stay (fun c v hc q => ?_) (fun _ q => q) fun _ _ q => q
    have hcn : ∃ u, H c = some u := by
      rcases hc with z | z
      · rw [z]; exact ⟨_, ha⟩
      · exact ⟨_, z⟩
    obtain ⟨u, hu⟩ := hcn
    refine kp.keep c v (k1 c v q) (fun hm => ?_) (fun hm => by rw [(hxs c hm).2] at hu; cases hu)
    have := I.stkFree c (by rw [F.stk.1]; exact hm)
    rw [hu] at this; cases this
theorem Inv.fly {h1 : Heap} {e : Addr} {cls : Value} {args : List Value} (I : Inv X pins σ H s) (F : Flies X E) (m : Heap.MadeExcOf s.heap h1 e cls args) (q : E cls none H) : X.xe (.ref e) { s with heap := h1 } := by
  refine F.xe _ _ ?_
  obtain ⟨t, he, _, _⟩ := m.there
  have ne : X.s₀.heap.get? e = none ∧ H e = none := ⟨I.new0 F m.new, I.newH m.new⟩
  refine leave_first (base := X.base) (outer := X.outer) (s := { s with heap := h1 }) (by rw [I.ok.frames, F.stk.1]) ((by rw [← F.stk.1]; exact I.stack : s.heap.FunFrames X.base (X.env :: X.outer)).of_keeps fun b o hb _ => ⟨o, m.keeps b o hb, rfl⟩) F.stk.2 he rfl rfl rfl fun h' T nT tr kp => ?_
  have nT' : s.heap.get? T = none := by
    cases q : s.heap.get? T with
    | none => rfl
    | some o =>
      have nT2 : h1.get? T = none := nT
      rw [m.keeps T o q] at nT2; cases nT2
  exact Inv.left (s := s) (h1 := h1) (h' := h') I F m.keeps (fun b hb => by rw [List.mem_singleton.mp hb]; exact ne) kp ne ⟨I.new0 F nT', I.newH nT'⟩ tr q
theorem Inv.flyOn {E' : XK} {e : Value} {s' : Shared} (I : Inv X pins σ H s) (F : Flies X E) (c : CX1 X.prog X.w X.stack H s E' e s') (hE : ∀ cls H', E' cls none H' → E cls none H') : X.xe e s' := by
  obtain ⟨a, T, cls, H1, rfl, os, bare, un, hok, tr, na, nT, ha, hT, q⟩ := c
  have I1 : Inv X pins σ H1 s' := I.call' (ch := []) os un hok bare (fun b hb => by cases hb)
  refine F.xe _ _ ?_
  refine leave_next (base := X.base) (outer := X.outer) (by rw [I.ok.frames, F.stk.1]) (by rw [← F.stk.1]; exact I1.stack) F.stk.2 tr fun h' T' nT' tr' kp => ?_
  refine Inv.left (s := s') (h1 := s'.heap) (h' := h') I1 F (fun b o hb => hb) (fun b hb => ?_) kp ⟨I.new0 F na, ha⟩ ⟨I1.new0 F nT', I1.newH nT'⟩ tr' (hE _ _ q)
  simp only [List.mem_cons, List.not_mem_nil, or_false] at hb
  rcases hb with rfl | rfl
  · exact ⟨I.new0 F na, ha⟩
  · exact ⟨I.new0 F nT, hT⟩
theorem Flies.passes {E' : XK} (F : Flies X E) (hE : ∀ cls H', E' cls none H' → E cls none H') : Passes (CX1 X.prog X.w) X E' := fun pins σ H s e s' I c => I.flyOn F c hE
theorem flies_of {P : Program} {w : World} {K : PySem.W.Frag} {mg : Str → Option Value} {base : Heap} {N : List Str} {qual : Str} {scope : Scope} {f : Addr} {cd : Value} {A : Around} {outer : List Env} {s : Shared} {H : Hp} {E : XK} :
    Flies (cxOf (CX1 P w) P w K mg base N qual scope f cd A outer s H E) E := ⟨fun _ _ h => h, ⟨rfl, rfl⟩, rfl⟩
end
theorem FnOk.calm {P : Program} {w : World} {K : PySem.W.Frag} {mg : Str → Option Value} {base : Heap} {CX : CXT} {k : Nat} {f : Addr} {fd : FuncData} {ps : List Str} {sp : Sp} (F : FnOk P w K mg base CX0 k f fd ps sp) : FnOk P w K mg base CX k f fd ps sp :=
  ⟨F.len, fun A outer s H args us vs Q E hr he hb hv hs => codeAny_mono (F.run A outer s H args us vs Q E hr he hb hv hs) fun r s' h => by
    cases r with
    | ok fl => cases fl with
      | ret u => exact h
      | next => exact h
      | brk => exact h
      | cont => exact h
    | error e => exact False.elim h⟩
end L2

set_option maxHeartbeats 4000000
namespace L2
open PySem PySem.Spec PyProof.Rows Ex
abbrev bmVE : List Value := [.type "ValueError", .type "Exception", .type "BaseException", .type "object"]
structure ExcAt (K : PySem.W.Frag) (C : Addr) (bm : List Value) : Prop where
  ex : ∃ N nm q bs hdct sn sub ab col dd k0 k1 k2 k3 k5, K.lookup C = some (excClassObj nm q C N bs bm hdct sn sub ab col dd k0 k1 k2 k3 k5 "ValueError.__new__") ∧ PySem.W.nsOkIn K N = true ∧ PySem.W.nsIn K N "__init__" = some none
  tail : PySem.W.tailIn K bmVE bm = true
theorem excAt {K : PySem.W.Frag} {C N : Addr} {nm q : Str} {bs bm : List Value} {hdct : Bool} {sn : List Str} {sub : List Value} {ab : Bool} {col : Option Bool} {dd : Option Addr} {k0 k1 k2 k3 k5 : Option Value}
    (l : K.lookup C = some (excClassObj nm q C N bs bm hdct sn sub ab col dd k0 k1 k2 k3 k5 "ValueError.__new__")) (o : PySem.W.nsOkIn K N = true) (n : PySem.W.nsIn K N "__init__" = some none) (t : PySem.W.tailIn K bmVE bm = true) : ExcAt K C bm :=
  ⟨⟨N, nm, q, bs, hdct, sn, sub, ab, col, dd, k0, k1, k2, k3, k5, l, o, n⟩, t⟩
section
variable {X : Cx} {E : XK} {x : Str} {C : Addr} {e : Expr} {es : List Expr} {t : TA} {np cpos pos : Pos} {bm : List Value}
def tRaise (E : XK) (C : Addr) (t : TA) : TS := fun _ σ H => t σ H fun vs H1 => vs.length ≤ sizeLine ∧ E (.ref C) none H1
theorem ps_raise (F : Flies X E) (hc : X.calm = true) (hg : Gl X x) (hm : X.mg x = some (.ref C)) (hx : ExcAt X.K C bm) (ha : PA X (e :: es) t) (hdb : (x == ("__debug__" : Str)) = false := by decide)
    (he : starEach (e :: es) X.env = (false, eval e X.env) :: starEach es X.env := by rfl) (hpl : (backTo cpos (starEach es X.env)).any (·.1) = false := by rfl) :
    PS X (.Raise (some (.Call (.Name x np) (e :: es) [] cpos)) none pos) (tRaise E C t) := by
  intro pins s σ H D I h
  obtain ⟨N, nm, q, bs, hdct, sn, sub, ab, col, dd, k0, k1, k2, k3, k5, lk, ok, ni⟩ := hx.ex
  have KX := I.ok.mod.kin
  have hC := KX _ _ lk
  have hN : X.base.Ns N _ := .of_isNs (PySem.W.isNs_of_in KX ok)
  have hni := PySem.W.nsMap_none_of_in KX ok ni
  have T := PySem.W.tail_of_in KX hx.tail
  refine wpAny_Raise_call_subT (C := C) (nm := nm) (q := q) (N := N) (bs := bs) (bm := bm) (hdct := hdct) (sn := sn) (sub := sub) (ab := ab) (col := col) (dd := dd) (k0 := k0) (k1 := k1) (k2 := k2) (k3 := k3) (k5 := k5)
    PySem.F.excBase_ValueError (T.hasType PySem.F.excBase_ValueError.hasBase) (I.ok.hd hc) (by rw [he]; show (false || (backTo cpos (starEach es X.env)).any (·.1)) = false; rw [hpl]; rfl) hni (ld_glob I hg hm ⟨rfl, ?_⟩ hdb)
  have h2 := ha cpos pins s σ H _ I h
  rw [he] at h2 ⊢
  refine Calls.evalArgs_plain (wpAny_mono h2 (fun us s1 ⟨vs, H1, I1, r1, hl, q1⟩ => ⟨rfl, by rw [← r1.length]; exact hl, I1.bk _ _ hC, hN.keeps I1.bk, T.keeps I1.bk, fun h' a m => I1.fly F m q1⟩) fun _ _ y => y)
end
end L2

set_option maxHeartbeats 4000000
namespace PySem
section
variable {M : Model} {A : Around} {E : Value → Shared → Prop}
theorem excMatches_base {h : Heap} {g : Array GenState} {d : Drawn} {t : Nat} {os : OsState} {e C D : Addr} {oe : Obj} {Q : Bool → Shared → Prop}
    {nm q : Str} {N : Addr} {bs bm : List Value} {hdct : Bool} {sn : List Str} {sub : List Value} {ab : Bool} {col : Option Bool} {dd : Option Addr} {k0 k1 k2 k3 k5 : Option Value} {newId : String}
    {nm' q' : Str} {N' : Addr} {bs' bm' : List Value} {hdct' : Bool} {sn' : List Str} {sub' : List Value} {ab' : Bool} {col' : Option Bool} {dd' : Option Addr} {k0' k1' k2' k3' k5' : Option Value} {newId' : String}
    (hC : h.get? C = some (excClassObj nm q C N bs bm hdct sn sub ab col dd k0 k1 k2 k3 k5 newId)) (hD : h.get? D = some (excClassObj nm' q' D N' bs' bm' hdct' sn' sub' ab' col' dd' k0' k1' k2' k3' k5' newId'))
    (he : h.get? e = some oe) (hcls : oe.cls = .ref C) (hbase : bm'.contains (.type "BaseException") = true) (hsub : (Value.ref C :: bm).contains (.ref D) = true)
    (hq : Q true ⟨h, g, d, t, os⟩) : wpAny M A (excMatches (.ref e) (.ref D)) Q E ⟨h, g, d, t, os⟩ := by
  have hcB : (Value.ref D :: bm').contains (.type "BaseException") = true := by rw [List.contains_cons, hbase, Bool.or_true]
  have f := tc_notTuple
  unfold excMatches
  repeat (first | (with_reducible refine wpAny_loadPart_at he ?_; rw [hcls]) | with_reducible refine wpAny_loadPart_at hD ?_ | (with_reducible refine wpAny_isSubtype_exc hD ?_; rw [hcB]) | (with_reducible refine wpAny_isSubtype_exc hC ?_; rw [hsub]) | wp_step)
  exact hq
end
end PySem
namespace L2
open PySem PySem.Spec PyProof.Rows Ex
def ExcO (a : Addr) (cls : Value) : HO := .ext fun h => ∃ o vs, h.get? a = some o ∧ (o.cls = cls ∧ o.dict = none) ∧ o.data = .fields vs
def Xt (X : Cx) (pins : List (Addr × Obj)) (σ0 : St) (E : XK) : Cx := { X with pn := X.pn ++ pins, xe := fun e s' => ∃ H1 s1, Inv X pins σ0 H1 s1 ∧ CX1 X.prog X.w X.stack H1 s1 E e s' }
theorem Inv.ofXt {X : Cx} {pins p2 : List (Addr × Obj)} {σ0 σ : St} {E : XK} {H : Hp} {s : Shared} (I : Inv (Xt X pins σ0 E) p2 σ H s) : Inv X pins σ H s :=
  ⟨⟨I.ok.mod, I.ok.kind, I.ok.glob, I.ok.blt, I.ok.above, I.ok.inj, I.ok.has, I.ok.cab, I.ok.hd, I.ok.frames, I.ok.stk, I.ok.exf, I.ok.bs, I.ok.bsz, I.ok.noex, I.ok.exfs, I.ok.funs, I.ok.frf⟩,
    I.os, I.bare, I.base, I.loc, I.cell, I.free, I.freeC, fun p hp => I.pin p (List.mem_append_left _ hp), I.hok, I.len⟩
theorem Inv.toXt {X : Cx} {pins : List (Addr × Obj)} {σ0 σ : St} {E : XK} {H : Hp} {s : Shared} (I : Inv X pins σ H s) : Inv (Xt X pins σ0 E) [] σ H s :=
  ⟨⟨I.ok.mod, I.ok.kind, I.ok.glob, I.ok.blt, I.ok.above, I.ok.inj, I.ok.has, I.ok.cab, I.ok.hd, I.ok.frames, I.ok.stk, I.ok.exf, I.ok.bs, I.ok.bsz, I.ok.noex, I.ok.exfs, I.ok.funs, I.ok.frf⟩,
    I.os, I.bare, I.base, I.loc, I.cell, I.free, I.freeC, fun p hp => I.pin p (by rw [List.append_nil] at hp; exact hp), I.hok, I.len⟩
def Xh (X : Cx) (a : Addr) : Cx := { X with A := X.A.mark (some (.ref a)), calm := false, xe := fun _ _ => False }
theorem Inv.toXh {X : Cx} {pins : List (Addr × Obj)} {σ : St} {a : Addr} {H : Hp} {s : Shared} (I : Inv X pins σ H s) : Inv (Xh X a) pins σ H s :=
  ⟨⟨I.ok.mod, I.ok.kind, I.ok.glob, I.ok.blt, I.ok.above, I.ok.inj, I.ok.has, I.ok.cab, (fun z => by cases z), I.ok.frames, I.ok.stk, I.ok.exf, I.ok.bs, I.ok.bsz, I.ok.noex, I.ok.exfs, I.ok.funs, I.ok.frf⟩,
    I.os, I.bare, I.base, I.loc, I.cell, I.free, I.freeC, I.pin, I.hok, I.len⟩
theorem Inv.ofXh {X : Cx} {pins : List (Addr × Obj)} {σ : St} {a : Addr} {H : Hp} {s : Shared} (ok : X.Ok) (I : Inv (Xh X a) pins σ H s) : Inv X pins σ H s :=
  ⟨ok, I.os, I.bare, I.base, I.loc, I.cell, I.free, I.freeC, I.pin, I.hok, I.len⟩
theorem Inv.landed {X : Cx} {pins : List (Addr × Obj)} {σ : St} {H1 H' : Hp} {s1 s' : Shared} {a T T' : Addr} {cls : Value} {h' : Heap} (I : Inv X pins σ H1 s1) (os : s'.os = s1.os) (bare : AllBare s'.gens) (un : Un (frs X.stack) [] H1 H' s1.heap s'.heap) (hok : HOk X.prog X.w H' s'.heap)
    (kp : Kp (frs X.stack) [a, T] s'.heap h') (na : s1.heap.get? a = none) (nT : s1.heap.get? T = none) (ha : H' a = none) (hT : H' T = none) (tr : Tr a T' cls .none h') : Inv X pins σ (upd H' a (ExcO a cls)) { s' with heap := h' } := by
  obtain ⟨oe, vs, oT, ts, he, hc, hd, h1, hTe, hT', hdT, h3, hz⟩ := tr
  have nx : ∀ b o, s1.heap.get? b = some o → b ∉ [a, T] := fun b o hb hm => by
    simp only [List.mem_cons, List.not_mem_nil, or_false] at hm
    rcases hm with rfl | rfl
    · rw [na] at hb; cases hb
    · rw [nT] at hb; cases hb
  have nea : ∀ b u, H' b = some u → b ≠ a := fun b u hb z => by rw [z, ha] at hb; cases hb
  have frn : ∀ b, b ∈ frs X.stack → H' b = none := fun b hb => by
    obtain ⟨_, o, ho, _⟩ := I.stack.mem hb
    exact un.free b o ho (I.stkFree b hb) (by intro z; cases z)
  refine I.call' (ch := []) (s' := { s' with heap := h' }) os ⟨fun b o hb hn hf ox => ?_, fun b o hb hn hf ox => ?_, fun b o hb hn ox => ?_, fun b o hb ox => ?_, fun b xs hb => ?_, fun b o u hb => ?_, fun b ps hb => ?_⟩ (fun c o hc' => ?_) bare (fun b hb => by cases hb)
  · exact kp.keep b o (un.keep b o hb hn hf ox) hf (nx b o hb)
  · obtain ⟨sl, q⟩ := un.slot b o hb hn hf ox
    obtain ⟨sl2, q2⟩ := kp.slot b _ q (nx b o hb)
    exact ⟨sl2, q2⟩
  · rw [upd_ne (fun z => nx b o hb (by simp [z]))]; exact un.free b o hb hn ox
  · obtain ⟨o', q⟩ := un.there b o hb ox
    exact kp.there b o' q
  · have := un.tups b xs hb
    rw [upd_ne (nea b _ this)]; exact this
  · have := un.frzs b o u hb
    rw [upd_ne (nea b _ this)]; exact this
  · obtain ⟨more, this⟩ := un.tbls b ps hb
    exact ⟨more, by rw [upd_ne (nea b _ this)]; exact this⟩
  · by_cases hca : c = a
    · subst hca
      rw [upd_same] at hc'
      cases hc'
      exact ⟨⟨oe, vs, he, hc, hd⟩, ⟨oe, he⟩, fun h1 h2 ⟨o, vs, q1, q2, q3⟩ k => ⟨o, vs, k o q1, q2, q3⟩⟩
    · rw [upd_ne hca] at hc'
      refine (hok c o hc').stay (fun d v hd' q => ?_) (fun b q => by rw [upd_ne (nea b _ q)]; exact q) fun b xs q => by rw [upd_ne (nea b _ q)]; exact q
      have hdn : ∃ u, H' d = some u := by
        rcases hd' with z | z
        · rw [z]; exact ⟨_, hc'⟩
        · exact ⟨_, z⟩
      obtain ⟨u, hu⟩ := hdn
      refine kp.keep d v q (fun hm => ?_) (fun hm => ?_)
      · rw [frn d hm] at hu; cases hu
      · simp only [List.mem_cons, List.not_mem_nil, or_false] at hm
        rcases hm with rfl | rfl
        · rw [ha] at hu; cases hu
        · rw [hT] at hu; cases hu
theorem Inv.blank {X : Cx} {pins : List (Addr × Obj)} {σ : St} {H : Hp} {s : Shared} {h' : Heap} {m' : Str → Option Value} {tk : Nat} (I : Inv X pins σ H s) (hn : h'.Ns X.env.locals m') (hs : Heap.SameBut X.env.locals s.heap h') : Inv X pins (List.replicate X.N.length none) H { s with heap := h', toks := tk } := by
  have offL : ∀ b o, X.s₀.heap.get? b = some o → b ≠ X.env.locals := fun b o e => Nat.ne_of_lt (Nat.lt_of_lt_of_le (Heap.lt_size e) I.ok.above)
  refine ⟨I.ok, I.os, I.bare, ⟨fun b o e n hb nx => ?_, fun b o e n hb nx => ?_, I.base.free, fun b o e nx => ?_, I.base.tups, I.base.frzs, I.base.tbls⟩, ⟨m', hn, fun i x v k1 e2 e3 => ?_⟩, fun x c e => ?_, I.free, I.freeC, fun p hp => ?_, fun b ob e => ?_, by simp⟩
  · exact (hs.2 b (offL b o e)).trans (I.base.keep b o e n hb nx)
  · obtain ⟨sl, k1⟩ := I.base.slot b o e n hb nx
    exact ⟨sl, (hs.2 b (offL b o e)).trans k1⟩
  · obtain ⟨o', k1⟩ := I.base.there b o e nx
    exact ⟨o', (hs.2 b (offL b o e)).trans k1⟩
  · rw [List.getElem?_replicate] at e2
    split at e2 <;> cases e2
  · obtain ⟨v, o, ho, hd⟩ := I.cell x c e
    exact ⟨v, o, (hs.2 c (I.cne x c e)).trans ho, hd⟩
  · obtain ⟨q1, q2, q3, q4, q5⟩ := I.pin p hp
    exact ⟨(hs.2 _ q3).trans q1, q2, q3, q4, q5⟩
  · refine (I.hok b ob e).stay (fun c w' hc q => (hs.2 c ?_).trans q) (fun _ q => q) fun _ _ q => q
    rintro rfl
    rcases hc with rfl | hc
    · rw [I.free] at e; cases e
    · rw [I.free] at hc; cases hc
end L2

set_option maxHeartbeats 4000000
namespace L2
open PySem PySem.Spec PyProof.Rows Ex
section
variable {X : Cx} {E : XK}
def tTry (E : XK) (tb : St → TS) (th : TS) (i : Nat) : TS := fun D σ H => tb σ D σ H ∧ ∀ a cls H', E cls none H' → H' a = none → th { nx := fun _ _ => False, rt := D.rt } (σ.set i (some (.ref a))) (upd H' a (ExcO a cls))
theorem ps_try {st b₀ : Stmt} {suite : List Stmt} {cx n : Str} {C D : Addr} {i : Nat} {np hpos pos : Pos} {tb : St → TS} {th : TS} {bm bm' : List Value} (hst : X.stack = X.env :: X.outer ∧ X.env.frame = some X.env.locals) (hN : X.N.Nodup) (hi : X.N[i]? = some n) (hloc : X.env.scope.names.lookup n = some .local)
    (hg : Gl X cx) (hm : X.mg cx = some (.ref D)) (hC : ExcAt X.K C bm) (hD : ExcAt X.K D bm') (hsub : (Value.ref C :: bm).contains (.ref D) = true) (hE : ∀ cls H', E cls none H' → cls = .ref C)
    (hb : ∀ pins σ, PSs (Xt X pins σ E) [st] (tb σ)) (hh : ∀ a, PSs (Xh X a) (b₀ :: suite) th) (hdb : (cx == ("__debug__" : Str)) = false := by decide) :
    PS X (.Try [st] [.ExceptHandler (some (.Name cx np)) (some n) (b₀ :: suite) hpos] [] [] pos) (tTry E tb th i) := by
  intro pins s σ H D' I h
  obtain ⟨h1, h2⟩ := h
  refine wpAny_Try_except (wpAny_mono (hb pins σ [] s σ H D' I.toXt h1) (fun f s1 q => ?_) (fun e s1 q => ?_))
  · cases f with
    | next => obtain ⟨σ', H', I', q⟩ := q; exact wpAny_execs_nil ⟨σ', H', I'.ofXt, q⟩
    | brk => obtain ⟨σ', H', I', q⟩ := q; exact ⟨σ', H', I'.ofXt, q⟩
    | cont => obtain ⟨σ', H', I', q⟩ := q; exact ⟨σ', H', I'.ofXt, q⟩
    | ret u => obtain ⟨v, σ', H', I', r, q⟩ := q; exact ⟨v, σ', H', I'.ofXt, r, q⟩
  obtain ⟨H1, s0, I0, a, T, cls, H', rfl, os, bare, un, nsOk, tr, na, nT, ha, hT, q⟩ := q
  obtain rfl := hE cls H' q
  have I1 : Inv X pins σ H' s1 := I0.call' (ch := []) os un nsOk bare (fun b hb => by cases hb)
  have hcls : X.env.kindOf n = some .local := hloc
  refine note_next (base := X.base) (outer := X.outer) (by rw [I.ok.frames, hst.1]) (by rw [← hst.1]; exact I1.stack) hst.2 tr fun h' T' nT' tr' kp => ?_
  have kp' : Kp (frs X.stack) [a, T] s1.heap h' := by rw [hst.1]; exact kp
  have I2 : Inv X pins σ (upd H' a (ExcO a (.ref C))) { s1 with heap := h' } := I0.landed os bare un nsOk kp' na nT ha hT tr'
  obtain ⟨_, _, _, _, _, _, _, _, _, _, _, _, _, _, _, lC, _, _⟩ := hC.ex
  obtain ⟨_, _, _, _, _, _, _, _, _, _, _, _, _, _, _, lD, _, _⟩ := hD.ex
  have TD := PySem.W.tail_of_in I2.kIn hD.tail
  obtain ⟨oe, vs, oT, ts, he, ⟨hc, _⟩, _⟩ := id tr'
  refine wpAny_handleBy_cons (codeAny_handlers_test (ld_glob (X := Xh X a) (I2.toXh (a := a)) hg hm ?_ hdb)) (by intro q; cases q)
  refine excMatches_base (I2.kIn _ _ lC) (I2.kIn _ _ lD) he hc (TD.hasType PySem.F.excBase_ValueError.hasBase) hsub ?_
  refine codeAny_handlers_suite_as ?_
  refine flight (s := { s1 with heap := h' }) tr' fun h3 tr3 same => ?_
  have kp3 : Kp (frs X.stack) [a, T] s1.heap h3 := by
    have ne : ∀ b o, s1.heap.get? b = some o → b ≠ T' := fun b o hb z => by rw [z, nT'] at hb; cases hb
    exact ⟨fun b o hb hf hx => (same b (ne b o hb)).trans (kp'.keep b o hb hf hx), fun b o hb hx => let ⟨slo, e⟩ := kp'.slot b o hb hx; ⟨slo, (same b (ne b o hb)).trans e⟩, fun b o hb => let ⟨o', e⟩ := kp'.there b o hb; ⟨o', (same b (ne b o hb)).trans e⟩⟩
  have I3 : Inv X pins σ (upd H' a (ExcO a (.ref C))) { s1 with heap := h3 } := I0.landed os bare un nsOk kp3 na nT ha hT tr3
  refine store_ok (X := Xh X a) (v := .ref a) (I3.toXh (a := a)) hN hi (.inl hloc) rfl (fun s4 I4 => ?_) (.inr hloc)
  refine wpAny_mono (hh a pins s4 _ _ _ I4 (h2 a _ H' q ha)) (fun f s5 q5 => ?_) (fun x s5 z => z.elim)
  cases f with
  | next => obtain ⟨_, _, _, z⟩ := q5; exact z.elim
  | brk => obtain ⟨_, _, _, z⟩ := q5; exact z.elim
  | cont => obtain ⟨_, _, _, z⟩ := q5; exact z.elim
  | ret u =>
    obtain ⟨v, σ', H5, I5, r, q6⟩ := q5
    obtain ⟨m, hn, _⟩ := id I5.loc
    refine wpAny_nameGoes hcls hn (by rw [I.ok.kind]; rfl) fun h6 m6 hn6 hs6 => ?_
    exact ⟨v, _, H5, (I5.ofXh I.ok).blank hn6 hs6, r, q6⟩
end
end L2

set_option maxHeartbeats 4000000
namespace PySem.W
open PySem PySem.Spec PySem.Calls PyProof.Rows
structure ExcG (K : Frag) (D : Addr) : Prop where
  ga : findIn K (.ref D) "__getattribute__" = some (some (.builtin "BaseException.__getattribute__"))
  gt : findIn K (.ref D) "__getattr__" = some none
  ff : findObj K D none "__class__" = some (.bind (.builtin "getset_descriptor.__get__") (.builtin "object.__class__"))
  ob : mroIn K D (.type "object") = some true
  be : kitCls K (.ref D) (.type "BaseException") = some true
  me : kitCls K (.ref D) (.ref D) = some true
  dc : hasDictIn K D = true
section
variable {prog : Program} {w : World} {A : Around} {E : Value → Shared → Prop} {K : Frag} {x D : Addr} {ox : Obj}
theorem exc_told {tk : Tok} {s : Shared} {Q : Fin → Shared → Prop} (g : ExcG K D) (X : K.In s.heap) (I : InstAt s.heap x ox D none) (q : Q (.done (.ret (.ref D))) s) :
    wpAny (model prog w) A (Builtin.«object.__getattribute__» ⟨[.ref x, .str "__class__" tk], []⟩) Q E s := by
  have L0 := I.type (M := model prog w)
  have L1 := looks_find (M := model prog w) X I g.ff
  unfold Builtin.«object.__getattribute__»
  refine wpAny_bind (wpAny_pure (wpAny_bind (wpAny_pure (wpAny_bind (L0.at (wpAny_bind (L1.at ?_)))))))
  show wpAny _ _ (Builtin.ObjectAttr.bindTo _ _ _ _) _ _ _
  unfold Builtin.ObjectAttr.bindTo
  show wpAny _ _ (holding [Value.builtin "object.__class__"] (call (Value.builtin "getset_descriptor.__get__") [Value.builtin "object.__class__", Value.ref x, Value.ref D]) >>= ret) _ _ _
  exact wpAny_bind (wpAny_holding (wpAny_call (class_get (ox := ox) (od := none) X I g.ob (wpAny_pure q))))
theorem exc_class {s : Shared} {Q : Option Value → Shared → Prop} (g : ExcG K D) (X : K.In s.heap) (I : InstAt s.heap x ox D none) (q : Q (some (.ref D)) { s with toks := s.toks + 1 }) : wpAny (model prog w) A (getAttr? (.ref x) "__class__") Q E s := by
  have L0 := I.type (M := model prog w)
  have L1 := looks_findIn (M := model prog w) X g.ga
  have L2 := looks_findIn (M := model prog w) X g.gt
  have L3 := (kit_cls (M := model prog w) X g.be).2.2
  have fb := PySem.F.attr_ValueError.ga.bind (.ref x)
  unfold getAttr? getAttrBy? getAttrBy
  refine wpAny_bind (wpAny_mkText (wpAny_bind (wpAny_attempt (wpAny_holding (wpAny_bind (L0.at (wpAny_bind (L1.at ?_))))))))
  show wpAny _ _ (getAttrByItsOwn _ _ _ _ _ _) _ _ _
  unfold getAttrByItsOwn
  refine wpAny_bind (L2.at (wpAny_bind (wpAny_attempt (wpAny_holding ?_))))
  show wpAny _ _ (boundAndCalled _ _ _) _ _ _
  unfold boundAndCalled
  rw [fb]
  refine wpAny_bind (wpAny_pure (wpAny_call (codeAny_call_builtin PySem.F.attr_ValueError.ga.plain F.entry_bexc_ga ?_)))
  have hk : builtinKind "BaseException.__getattribute__" = some .slot := by decide +kernel
  have hsplit : splitId "BaseException.__getattribute__" = some ("BaseException", "__getattribute__") := by decide +kernel
  have ha := F.args_bexc_ga (.ref x) (.str "__class__" s.toks)
  simp only [checkBuiltinCall, hk, hsplit]
  refine wpAny_bind (wpAny_bind (L0.at (L3.at ?_)))
  refine wpAny_of_eq (a := ()) ha ?_
  exact exc_told (s := { s with toks := s.toks + 1 }) g X I (handed_on rfl (wpAny_pure q))
theorem kitx_excG (g : ExcG K D) : KitX K (.ref x) (.ref D) (fun h => ∃ ox, InstAt h x ox D none) where
  ty := fun _ _ _ p => p.elim fun _ I => I.type
  it := fun _ _ X _ => (kit_cls X g.me).2.1
  ne := fun h tp dd its n sl X htp => by
    refine Bool.eq_false_iff.mpr fun q => ?_
    obtain rfl : D = tp := Value.ref.inj (beq_iff_eq.mp q)
    obtain ⟨cd, hc, _⟩ := any_some g.dc
    unfold clsIn at hc
    split at hc
    · rename_i c' d' cd' sl' ho
      cases (X _ _ ho).symm.trans htp
    · cases hc
  ca := fun X p k => p.elim fun _ I => exc_class g X I k
end
end PySem.W
namespace L2
open PySem PySem.Spec PyProof.Rows
def clV : V → Option Value
  | .ty T => some (.type T)
  | .ref D => some (.ref D)
  | _ => none
section
variable {X : Cx}
theorem call_isinstE : CallR X (.builtin "isinstance") (fun xs H Q => ∃ a C c cv b, xs = [.ref a, c] ∧ H a = some (ExcO a (.ref C)) ∧ PySem.W.ExcG X.K C ∧ clV c = some cv ∧ PySem.W.kitOne X.K (.ref C) cv = some b ∧ Q (.bl b) H) := by
  intro pins s σ H xs us Q I r h
  obtain ⟨a, C, c, cv, b, rfl, hH, kx, hc, e, q⟩ := h
  obtain ⟨u, v, rfl, ru, rv⟩ := r.two
  cases ru
  have hv : v = cv := by
    cases c <;> first | (cases hc; cases rv; rfl) | cases hc
  subst hv
  obtain ⟨⟨o, vs, q1, ⟨q2, q3⟩, q4⟩, _, _⟩ := (show ObjOk X.prog X.w H s.heap a (ExcO a (.ref C)) from I.hok a _ hH)
  refine PySem.W.kia_one (PySem.W.kitx_excG kx) I.kIn ⟨o, q1, q2, ?_, ?_⟩ e (fun z => nomatch z) fun tk => ⟨.bl b, H, I.tok tk, rfl, q⟩
  · unfold PySem.W.notCls; rw [q4]
  · rw [q3]; trivial
end
end L2

set_option maxHeartbeats 4000000
namespace L2
open PySem PySem.Spec PyProof.Rows Ex
section
variable {X : Cx}
theorem pe_own {x : Str} {C : Addr} {pos : Pos} (hg : Gl X x) (hm : X.mg x = some (.ref C)) (hd : (x == ("__debug__" : Str)) = false := by decide) : PE X (.Name x pos) (tC (.ref C)) :=
  fun _ _ _ H _ I h => ld_glob I hg hm ⟨.ref C, H, I, rfl, h⟩ hd
end
/-! ### calls of defs that may raise -/
structure CalX (P : Program) (w : World) (K : PySem.W.Frag) (mg : Str → Option Value) (base : Heap) (k : Nat) (x : Str) (ps : List Str) (sp : Sp) : Prop where
  ex : ∃ f fd, FnOk P w K mg base (CX1 P w) k f fd ps sp ∧ Binds K fd ps [] ∧ PySem.W.keepIn K (.ref f) = true ∧ mg x = some (.ref f)
theorem CalX.mono {P : Program} {w : World} {K : PySem.W.Frag} {mg : Str → Option Value} {base : Heap} {j k : Nat} {x : Str} {ps : List Str} {sp : Sp} (c : CalX P w K mg base j x ps sp) (h : j ≤ k) : CalX P w K mg base k x ps sp :=
  let ⟨f, fd, F, b, kp, m⟩ := c.ex
  ⟨f, fd, F.mono h, b, kp, m⟩
section
variable {X : Cx} {k : Nat} {x : Str} {ps : List Str} {sp : Sp} {p pos : Pos} {e : Expr} {es : List Expr} {t : TA} {E : XK}
theorem pe_calX (c : CalX X.prog X.w X.K X.mg X.base k x ps sp) (hx : Passes (CX1 X.prog X.w) X E) (hr : Room k X.A) (hg : Gl X x) (ha : PA X (e :: es) t) (hdb : (x == ("__debug__" : Str)) = false := by decide)
    (he : starEach (e :: es) X.env = (false, eval e X.env) :: starEach es X.env := by rfl) (hpl : (backTo pos (starEach es X.env)).any (·.1) = false := by rfl) : PE X (.Call (.Name x p) (e :: es) [] pos) (tCall sp [] E t) := by
  obtain ⟨f, fd, F, b, kp, m⟩ := c.ex
  exact pe_call F hr hg m kp b .nil hx ha hdb he hpl
def tCallT (σ0 : St) (sp : Sp) (E : XK) (t : TA) : TE := fun σ H Q => t σ H fun vs H1 => σ = σ0 ∧ sp vs H1 Q E
theorem pe_calT {pins : List (Addr × Obj)} {σ0 : St} (c : CalX X.prog X.w X.K X.mg X.base k x ps sp) (hr : Room k X.A) (hg : Gl X x) (ha : PA (Xt X pins σ0 E) (e :: es) t) (hdb : (x == ("__debug__" : Str)) = false := by decide)
    (he : starEach (e :: es) X.env = (false, eval e X.env) :: starEach es X.env := by rfl) (hpl : (backTo pos (starEach es X.env)).any (·.1) = false := by rfl) : PE (Xt X pins σ0 E) (.Call (.Name x p) (e :: es) [] pos) (tCallT σ0 sp E t) := by
  obtain ⟨f, fd, F, b, kp, m⟩ := c.ex
  intro p2 s σ H Q I h
  refine wpAny_Call_Name_kw (ld_glob I hg m ?_ hdb)
  refine PySem.W.callWith_K (h₀ := X.base) I.ok.mod.kin kp (thn (ha pos p2 s σ H _ I h) fun us s1 ⟨vs, H1, I1, r, e1, q⟩ => ⟨I1.kIn, ?_⟩) he hpl
  subst e1
  have hl : us.length = ps.length := by rw [← r.length]; exact F.len _ _ _ _ q
  have b2 := b s1 us I1.kIn (by rw [List.append_nil]; exact hl)
  rw [List.append_nil] at b2
  refine wpAny_call (codeAny_mono (F.run X.A X.stack s1 H1 ⟨us, []⟩ us vs Q E hr I1.env0 b2 r q) fun r s' hq => ?_)
  cases r with
  | error e => exact ⟨H1, s1, I1.ofXt, hq⟩
  | ok fl =>
    cases fl with
    | ret u => exact I1.after hq
    | next => exact False.elim hq
    | brk => exact False.elim hq
    | cont => exact False.elim hq
end
section
variable {P : Program} {w : World} {K : PySem.W.Frag} {mg : Str → Option Value} {base : Heap}
theorem Cal.x {k : Nat} {x : Str} {ps : List Str} {sp : Sp} (c : Cal P w K mg base k x ps sp) : CalX P w K mg base k x ps sp :=
  let ⟨f, fd, F, b, kp, m⟩ := c.ex
  ⟨f, fd, F.calm, b, kp, m⟩
theorem FunAt.calX {x : Str} {st : Stmt} {dV : Value} {N ps : List Str} {k : Nat} {sp : Sp} (F : FunAt K x st dV) {h : Heap} (X : K.In h) (G : h.Ns mainGlobals mg) (S : FnScope N ps (defScope st)) (bi : BindsAll K x st dV ps) (len : ∀ vs H Q E, sp vs H Q E → vs.length = ps.length)
    (hbody : ∀ (f : Addr) (cdv : Value) (A : Around) (outer : List Env) (s : Shared) (H : Hp) (vs : List V) (Q : VK) (E : XK), Room k (A.deeper (envOfC x (defScope st) s.heap.objs.size f cdv)) → sp vs H Q E →
      ∃ t, PSs (cxOf (CX1 P w) P w K mg base N x (defScope st) f cdv A outer s H E) (defBody st) t ∧ t { nx := fun _ H' => Q .non H', rt := Q } (start N vs) H) : CalX P w K mg base (k + 1) x ps sp := by
  obtain ⟨f, oc, od, kV, doc, pm, an, cdv, ct, osl, lk, hcd, kp, ns⟩ := F.ex
  exact ⟨f, _, fn_of lk hcd S len fun A outer s H vs Q E hr hsp => hbody f cdv A outer s H vs Q E hr hsp, bi kV doc pm an cdv ct, kp, PySem.W.mg_of X G ns⟩
end
end L2

set_option maxHeartbeats 4000000
namespace L2
theorem pe_alt {X : Cx} {e : PySem.Expr} {t u : TE} (h1 : PE X e t) (h2 : PE X e u) : PE X e (fun σ H Q => t σ H Q ∨ u σ H Q) := fun pins s σ H Q I h => h.elim (h1 pins s σ H Q I) (h2 pins s σ H Q I)
end L2
namespace K36
open PySem PySem.Spec PyProof.Rows L2 Am Pc Ba
open Pt hiding kit_tt
theorem s1l : (1 : Nat) ≤ sizeLine := by decide
structure BadCell (nm : Str) (ns : List Int) (c : Nat) : Prop where
  form : Form nm ns
  bad : (∃ a ∈ named nm ns, a < 0 ∨ (c : Int) ≤ a) ∨ ¬ (named nm ns).Nodup
def BadAt (H : Hp) (c : Nat) (v : V) : Prop := ∃ (p : Addr) (nm : Str) (ns : List Int), v = .ref p ∧ H p = some (MvT nm ns) ∧ BadCell nm ns c
theorem BadAt.same {H H' : Hp} {c : Nat} {v : V} (b : BadAt H c v) (s : Same H H') : BadAt H' c v := let ⟨p, nm, ns, e, h, d⟩ := b; ⟨p, nm, ns, e, s _ _ h, d⟩
abbrev BadP := Hp → Nat → V → Prop
def spChkX (Bd : BadP) (C : Addr) : Sp := fun vs H _ E => ∃ (v : V) (c : Nat), vs = [v, .int c] ∧ Bd H c v ∧ ∀ H', Same H H' → E (.ref C) none H'
def spTurnX (K : PySem.W.Frag) (Bd : BadP) (C : Addr) : Sp := fun vs H _ E => ∃ (l : Addr) (v : V) (xs : List V) (c : Nat), vs = [.ref l, v] ∧ SqL K H l xs ∧ xs.length = 2 ^ c ∧ c ≤ 6 ∧ Bd H c v ∧ ∀ H', Same H H' → E (.ref C) none H'
theorem unlike_le {ns : List Int} : unlike ns ≤ ns.length := by
  have key : ∀ i, i ≤ ns.length → (firstMet (fun i => ns.getD i 0) i).length ≤ i := by
    intro i
    induction i with
    | zero => intro _; exact Nat.le_refl _
    | succ i ih =>
      intro hi
      rw [firstMet_succ, step_length]
      have := ih (by omega)
      split <;> omega
  exact key _ (Nat.le_refl _)
theorem unlike_lt {ns : List Int} (h : ¬ ns.Nodup) (l : ns.length ≤ 3) : unlike ns ≠ ns.length := by
  intro e
  apply h
  match ns, l, e with
  | [], _, _ => simp
  | [a], _, _ => simp
  | [a, b], _, e =>
    have e : (firstMet (fun i => [a, b].getD i 0) 2).length = 2 := e
    rw [firstMet_succ, step_length, firstMet_any, firstMet_succ, step_length, firstMet_any] at e
    by_cases c : a = b
    · subst c; simp [firstMet] at e
    · simp [c]
  | [a, b, d], _, e =>
    have e : (firstMet (fun i => [a, b, d].getD i 0) 3).length = 3 := e
    rw [firstMet_succ, step_length, firstMet_any, firstMet_succ, step_length, firstMet_any, firstMet_succ, step_length, firstMet_any] at e
    by_cases c1 : a = b
    · subst c1; simp [firstMet, List.range_succ] at e; split at e <;> omega
    · by_cases c2 : a = d
      · subst c2; simp [firstMet, List.range_succ] at e; split at e <;> omega
      · by_cases c3 : b = d
        · subst c3; simp [firstMet, List.range_succ] at e; split at e <;> omega
        · simp [c1, c2, c3]
section
variable {P : Program} {w : World} {K : PySem.W.Frag} {mg : Str → Option Value} {base : Heap} {k : Nat} {h : Heap} {C : Addr} {bm : List Value}
theorem okx_checkM (F : FunAt K "check_move" (top 33) .none) (X : K.In h) (G : h.Ns mainGlobals mg) (mC : mg "NoMove" = some (.ref C)) (xC : ExcAt K C bm) (c_has_move_form : Cal P w K mg base k "has_move_form" ["thing"] (spNoForm K)) : CalX P w K mg base (k + 1) "check_move" ["move", "cells"] (spChkX (fun H _ v => NoForm K H v) C) := by
  have nd := sc_check.nd
  refine F.calX X G sc_check (bnd2 fun _ _ _ _ _ _ _ _ => rfl) (fun vs H Q E' h => ?_) (fun f cdv A outer s H vs Q E' hr h => ?_)
  · obtain ⟨v, c, rfl, _⟩ := h; rfl
  obtain ⟨v, c, rfl, NF, kx⟩ := h
  refine ⟨_, (@pss_cons _ _ _ _ _ (ps_if (pt_not (pt_val (pe_cal c_has_move_form hr rfl (pa_cons (pv 0) pa_nil)))) (@pss_one _ _ _ (ps_raise flies_of rfl rfl mC xC (pa_cons pe_str pa_nil))) pss_nil) pss_never), ?_⟩
  try dsimp only [cxK]
  exact ⟨_, rfl, v, rfl, NF, fun H1 S1 => ⟨_, rfl, iteT ⟨s1l, kx H1 S1⟩⟩⟩
theorem okx_turnX {Bd : BadP} (F : FunAt K "turned" (top 36) .none) (X : K.In h) (G : h.Ns mainGlobals mg) (c_check_move : CalX P w K mg base k "check_move" ["move", "cells"] (spChkX Bd C)) (c_cells_of : Cal P w K mg base k "cells_of" ["board"] (spCellsOf K)) : CalX P w K mg base (k + 1) "turned" ["board", "move"] (spTurnX K Bd C) := by
  have nd := sc_turned.nd
  refine F.calX X G sc_turned (bnd2 fun _ _ _ _ _ _ _ _ => rfl) (fun vs H Q E' h => ?_) (fun f cdv A outer s H vs Q E' hr h => ?_)
  · obtain ⟨l, v, xs, c, rfl, _⟩ := h; rfl
  obtain ⟨l, v, xs, c, rfl, hS, hl, c6, bd, kx⟩ := h
  refine ⟨_, (@pss_cons _ _ _ _ _ (ps_expr (pe_calX c_check_move (flies_of.passes fun _ _ z => z) hr rfl (pa_cons (pv 1) (pa_cons (pe_cal c_cells_of hr rfl (pa_cons (pv 0) pa_nil)) pa_nil)))) pss_never), ?_⟩
  try dsimp only [cxK]
  exact ⟨_, rfl, _, rfl, l, xs, c, rfl, hS, hl, c6, v, c, rfl, bd, kx⟩
def outB (c : Nat) (a : Int) : Bool := decide (a < 0) || decide ((c : Int) ≤ a)
theorem okx_checkC (F : FunAt K "check_move" (top 33) .none) (X : K.In h) (G : h.Ns mainGlobals mg) (B : Bs mg) (mC : mg "NoCell" = some (.ref C)) (xC : ExcAt K C bm) (c_has_move_form : Cal P w K mg base k "has_move_form" ["thing"] spHasForm) (c_named_cells : Cal P w K mg base k "named_cells" ["move"] spNamed) : CalX P w K mg base (k + 1) "check_move" ["move", "cells"] (spChkX BadAt C) := by
  have nd := sc_check.nd
  refine F.calX X G sc_check (bnd2 fun _ _ _ _ _ _ _ _ => rfl) (fun vs H Q E' h => ?_) (fun f cdv A outer s H vs Q E' hr h => ?_)
  · obtain ⟨v, c, rfl, _⟩ := h; rfl
  obtain ⟨v, c, rfl, ⟨p, nm, ns, rfl, hp, BC⟩, kx⟩ := h
  have l3 : (named nm ns).length ≤ 3 := by
    have := BC.form.len
    unfold named
    split
    · rw [List.length_take]; omega
    · exact this
  refine ⟨_, (@pss_cons _ _ _ _ _ (ps_if (pt_not (pt_val (pe_cal c_has_move_form hr rfl (pa_cons (pv 0) pa_nil))))
      (@pss_one _ _ _ ps_never)
      pss_nil)
    (@pss_cons _ _ _ _ _ (@ps_set _ _ 2 _ _ _ _ nd rfl (Or.inl rfl) (pe_cal c_named_cells hr rfl (pa_cons (pv 0) pa_nil)) rfl (.inl rfl))
    (@pss_cons _ _ _ _ _ (ps_if (pt_val (pe_callB (call_anyL rfl) rfl B.any boot_any (pa_cons (pe_lc rfl (LcOk.of (Nc := ["cell", "cells"]) (mp := [none, some 1]) (by kernel_rfl)) (pi_tup (pv 2)) (fun _ _ _ _ => (pg_name (i := 0) (show (["cell", "cells"] : List Str).Nodup by decide +kernel) rfl (Or.inl rfl))) (fun _ _ _ _ => (pe_or (pe_cmpR op_lt (pv 0) pe_int (nomark _)) (pe_one (pe_cmpR op_ge (pv 0) (pv 1) (nomark _)))))) pa_nil)))
      (@pss_one _ _ _ (ps_raise flies_of rfl rfl mC xC (pa_cons pe_str pa_nil)))
      pss_nil)
    (@pss_cons _ _ _ _ _ (ps_if (pt_cmpR op_ne (pe_callB call_lenS rfl B.len PySem.boot_len (pa_cons (pe_callTy (call_setT rfl) rfl B.set boot_set (pa_cons (pv 2) pa_nil)) pa_nil)) (pe_callB call_len_seq rfl B.len PySem.boot_len (pa_cons (pv 2) pa_nil)) (nomark _))
      (@pss_one _ _ _ (ps_raise flies_of rfl rfl mC xC (pa_cons pe_str pa_nil)))
      pss_nil)
    (@pss_one _ _ _ (ps_ret (pv 0))))))), ?_⟩
  try dsimp only [cxK]
  refine ⟨_, rfl, p, nm, ns, rfl, hp, BC.form, fun H1 S1 => ⟨_, rfl, iteF ?_⟩⟩
  refine ⟨_, rfl, p, nm, ns, rfl, S1 _ _ hp, BC.form, fun r H2 S2 hr => ?_⟩
  have SR : SqT K H2 r ((named nm ns).map V.int) := SqT.of hr
  refine ⟨_, rfl, r, rfl, ⟨_, SR⟩, fun acc hacc => ?_⟩
  refine lc_tupM (K := K) (fun a => .bl (outB c a)) SR (t64 (by omega)) hacc (fun n H2 N hn S2 kN => ?_) (fun H3 S3 a3 => ?_)
  · refine ⟨_, rfl, _, _, rfl, rfl, _, rfl, decI (fun z => ?_) (fun z => ?_)⟩
    · have e : outB c n = true := by unfold outB; rw [decide_eq_true z]; rfl
      rw [e] at kN
      exact kN
    · refine ⟨_, rfl, _, rfl, _, _, rfl, rfl, ?_⟩
      show N (.bl (decide ((c : Int) ≤ n))) _
      have e : outB c n = decide ((c : Int) ≤ n) := by unfold outB; rw [decide_eq_false z]; rfl
      rw [e] at kN
      exact kN
  have e : (named nm ns).map (fun a => V.bl (outB c a)) = ((named nm ns).map (outB c)).map V.bl := by rw [List.map_map]; rfl
  rw [e] at a3
  have S13 := S1.trans (S2.trans S3)
  refine ⟨acc, _, rfl, SqL.of a3, _, rfl, ?_⟩
  cases hb : ((named nm ns).map (outB c)).any id with
  | true => exact iteT ⟨s1l, kx _ S13⟩
  | false =>
    refine iteF ?_
    refine ⟨_, rfl, r, _, rfl, S3.tup SR, by omega, fun l S hl => ?_⟩
    have s4 := same_new hl (.set S (unlike (named nm ns)))
    have nn : ¬ (named nm ns).Nodup := by
      rcases BC.bad with ⟨a, ha, b⟩ | b
      · exfalso
        have : ((named nm ns).map (outB c)).any id = true := by
          rw [List.any_eq_true]
          refine ⟨true, List.mem_map.mpr ⟨a, ha, ?_⟩, rfl⟩
          unfold outB
          rcases b with b | b
          · rw [decide_eq_true b]; rfl
          · rw [decide_eq_true b]; simp
        rw [hb] at this
        cases this
      · exact b
    have un := unlike_lt nn l3
    have ul := unlike_le (ns := named nm ns)
    exact ⟨l, S, _, rfl, upd_same, by omega, _, rfl, r, _, rfl, .inr (s4.tup (S3.tup SR)), rfl, _, rfl, neI (fun _ => ⟨s1l, kx _ (S13.trans s4)⟩) (fun z => absurd (by rw [List.length_map] at z; omega) un)⟩
def spRunX (K : PySem.W.Frag) (Bd : BadP) (C : Addr) : Sp := fun vs H _ E => ∃ (l lr : Addr) (ps rp : List Addr) (f : Nat → A5) (c n M : Nat) (ms : List Gm) (v : V) (rest : List V), vs = [.ref l, .ref lr] ∧ H lr = some (.lst (rp.map V.ref ++ v :: rest)) ∧ rest.length ≤ 200 ∧ Mvs H rp ms ∧ (∀ m ∈ ms, m.Ok c) ∧ ms.length ≤ 200 ∧ Bd5 K H l ps f c n M ∧ c ≤ 6 ∧ M ≤ 300 ∧ n ≤ 210000 ∧ (∀ H', Same H H' → Bd H' c v) ∧ ∀ H', Same H H' → E (.ref C) none H'
theorem okx_runX {Bd : BadP} (F : FunAt K "run" (top 43) .none) (X : K.In h) (G : h.Ns mainGlobals mg) (B : Bs mg) (c_turned : Cal P w K mg base k "turned" ["board", "move"] (spTurnedK K)) (x_turned : CalX P w K mg base k "turned" ["board", "move"] (spTurnX K Bd C)) : CalX P w K mg base (k + 1) "run" ["board", "row"] (spRunX K Bd C) := by
  have nd := sc_run.nd
  refine F.calX X G sc_run (bnd2 fun _ _ _ _ _ _ _ _ => rfl) (fun vs H Q E' h => ?_) (fun f cdv A outer s H vs Q E' hr h => ?_)
  · obtain ⟨l, lr, ps, rp, f, c, n, M, ms, v, rest, rfl, _⟩ := h; rfl
  obtain ⟨l, lr, ps, rp, g, c, n, M, ms, v, rest, rfl, hL, rl, mv, mok, m200, BD, c6, M3, n2, bad, kx⟩ := h
  have lps := mv.length
  have SR : SqL K H lr (rp.map V.ref ++ v :: rest) := SqL.of hL
  refine ⟨_, (@pss_cons _ _ _ _ _ (@ps_set _ _ 2 _ _ _ _ nd rfl (Or.inl rfl) (pe_callTy call_list_of rfl B.list boot_list (pa_cons (pv 0) pa_nil)) rfl (.inl rfl))
    (@pss_cons _ _ _ _ _ (ps_for PassesOwn.leaving rfl (pi_list (pv 1)) (pg_name (i := 3) nd rfl (Or.inl rfl))
      (@pss_one _ _ _ (@ps_set _ _ 2 _ _ _ _ nd rfl (Or.inl rfl) (pe_alt (pe_cal c_turned hr rfl (pa_cons (pv 2) (pa_cons (pv 3) pa_nil))) (pe_calX x_turned (flies_of.passes fun _ _ z => z) hr rfl (pa_cons (pv 2) (pa_cons (pv 3) pa_nil)))) rfl (.inl rfl))))
    (@pss_one _ _ _ (ps_ret (pv 2))))), ?_⟩
  try dsimp only [cxK]
  refine ⟨_, rfl, l, _, rfl, .inl (SqL.of BD.lst), fun b0 hb0 => ?_⟩
  have s0 := same_new hb0 (.lst (ps.map V.ref))
  refine ⟨_, rfl, lr, rfl, ⟨_, s0.seq SR⟩, for_list (K := K) (a := lr) (xs := rp.map V.ref ++ v :: rest) (fun i σ H' => i ≤ rp.length ∧ Same H H' ∧ ∃ (b : Addr) (qs : List Addr) (y : Nat → A5) (v3 : Option V), H b = none ∧ Bd5 K H' b qs y c (n + 1010 * i) (M + i) ∧ σ = [some (.ref l), some (.ref lr), some (.ref b), v3])
    ⟨Nat.zero_le _, s0, b0, ps, g, none, hb0, ⟨upd_same, BD.len, BD.vals.same s0, BD.ok⟩, rfl⟩ (fun i σ H' _ e => e.2.1.seq SR) ?_ ?_⟩
  · rintro i x σ H1 hx ⟨il, S1, b, qs, y, v3, hb, B1, rfl⟩
    by_cases e : i < rp.length
    · rw [List.getElem?_append_left (by rw [List.length_map]; exact e), List.getElem?_map] at hx
      obtain ⟨p, hp, rfl⟩ := Option.map_eq_some_iff.mp hx
      obtain ⟨m, hm, p0⟩ := mv.get hp
      refine .inl ⟨_, rfl, _, rfl, b, p, qs, y, c, _, _, m, rfl, S1 _ _ p0, mok m (List.mem_of_getElem? hm), B1, c6, by omega, by omega, fun r H2 rs z hr S2 B2 st => ?_⟩
      exact ⟨e, S1.trans S2, r, rs, z, _, S1.free hr, ⟨B2.lst, B2.len, B2.vals, fun j hj => (B2.ok j hj).mono (by omega) (by omega)⟩, rfl⟩
    · have ie : i = rp.length := by omega
      subst ie
      rw [List.getElem?_append_right (by rw [List.length_map]; exact Nat.le_refl _), List.length_map, Nat.sub_self] at hx
      cases hx
      exact .inr ⟨_, rfl, _, rfl, b, v, _, c, rfl, SqL.of B1.lst, by rw [List.length_map, B1.len], c6, bad _ S1, fun H' S' => kx _ (S1.trans S')⟩
  · rintro σ H1 ⟨il, _⟩
    rw [List.length_append, List.length_map, List.length_cons] at il
    omega
end
end K36

set_option maxHeartbeats 4000000
/-! set(a list of ints) -/
namespace L2
open PySem PySem.Spec PyProof.Rows
theorem call_setL {X : Cx} (hc : X.calm = true) : CallR X (.type "set") (fun xs H Q => ∃ (p : Addr) (ns : List Int), xs = [.ref p] ∧ SqL X.K H p (ns.map V.int) ∧ ns.length < 64 ∧ ∀ (l : Addr) (S : Int → Bool), H l = none → Q (.ref l) (upd H l (.set S (unlike ns)))) := by
  intro pins s σ H xs us Q I r h
  obtain ⟨p, ns, rfl, hS, h64, q⟩ := h
  obtain ⟨u, rfl, rx⟩ := vals1 r
  cases rx
  obtain ⟨its, rv, pl, _⟩ := I.list hS
  have el : its.toArray.size = ns.length := by rw [List.size_toArray, ← rv.length, List.length_map]
  refine call_set_list (I.ok.hd hc) pl.isList (ns := ns) (by simpa using ints_vals rv) (by unfold scanBound; omega) fun h' tk hs hk => ?_
  rw [el] at hs
  exact ⟨.ref s.heap.objs.size, _, I.laid (o := .set _ (unlike ns)) (t' := tk) (fun b o e => hk b o (Heap.lt_size e) e) (Nat.le_refl _) hs, rfl, q _ _ (I.hok.fresh (Nat.le_refl _))⟩
end L2

set_option maxHeartbeats 4000000
/-! the greatest of a list -/
namespace L2
open PySem PySem.Spec PyProof.Rows
theorem call_maxL {X : Cx} (hc : X.calm = true) : CallR X (.builtin "max") (fun xs H Q => ∃ (p : Addr) (ns : List Int), xs = [.ref p] ∧ SqL X.K H p (ns.map V.int) ∧ 0 < ns.length ∧ ∀ M, M ∈ ns → (∀ a, a ∈ ns → a ≤ M) → Q (.int M) H) := by
  intro pins s σ H xs us Q I r h
  obtain ⟨p, ns, rfl, hq, hn, q⟩ := h
  obtain ⟨u, rfl, ru⟩ := r.one
  cases ru
  obtain ⟨its, rv, pl, hz⟩ := I.list hq
  have hi := intsAre_of rv
  have hl := pl.isList
  obtain ⟨xs, e⟩ := hi.allInts.items
  have hns : ns = xs.toList.map (·.1) := by
    rw [← hi.numsOf, ← nums_intItems, ← e]
  have hsz : 0 < xs.size := by
    have h3 := hn; rw [hns, List.length_map, Array.length_toList] at h3; exact h3
  rw [e] at hl
  refine max_intList (show X.A.handled = none from I.ok.hd hc) hl hsz fun v h' tk hv hk => ?_
  obtain ⟨t, rfl⟩ := intItems_at hv
  obtain ⟨h1, h2⟩ := argBest_gt (PySem.numAt xs) (xs.size - 1)
  refine ⟨.int (PySem.numAt xs (argBest (fun i j => decide (PySem.numAt xs i > PySem.numAt xs j)) (xs.size - 1))), H, I.kept (t' := tk) hk, ⟨_, rfl⟩, q _ ?_ fun a ha => ?_⟩
  · rw [hns, numAt_eq]; exact getD_mem (by rw [List.length_map, Array.length_toList]; omega)
  · rw [hns] at ha
    obtain ⟨j, hj, rfl⟩ := mem_getD ha
    rw [List.length_map, Array.length_toList] at hj
    rw [← numAt_eq]; exact h2 j (by omega)
end L2

set_option maxHeartbeats 4000000
/-! the least and the greatest of a tuple, the least of a list, sorted(t) of a tuple, in, and != of moves -/
namespace L2
open PySem PySem.Spec PyProof.Rows
section
variable {prog : Program} {w : World} {A : Around} {E : Value → Shared → Prop} {s : Shared} {l : Addr}
theorem tup_iter {vs : Array Value} {Q : Value → Shared → Prop} (ht : s.heap.IsTuple l vs)
    (h : ∀ hp : Heap, hp = s.heap.push { cls := .type "tuple_iterator", data := .fields #[.ref l, .int 0 0] } → hp.IsTupleIter s.heap.objs.size l 0 ∧ hp.IsTuple l vs → (∀ b ∈ [s.heap.objs.size, l], b < hp.objs.size) → l ≠ s.heap.objs.size →
      (∀ h' : Heap, (∀ b o, b ∉ [s.heap.objs.size] → hp.get? b = some o → h'.get? b = some o) → ∀ b o, s.heap.get? b = some o → h'.get? b = some o) → Q (.ref s.heap.objs.size) { s with heap := hp }) :
    wpAny (model prog w) A (pyIter (.ref l)) Q E s := by
  have low : l < s.heap.objs.size := by obtain ⟨_, e, _⟩ := ht; exact Heap.lt_size e
  refine wpAny_pyIter_tuple ht (h _ rfl ⟨⟨_, Heap.get?_push_size _ rfl, rfl, rfl⟩, ht.push _⟩ (fun b hb => ?_) (Nat.ne_of_lt low) fun h' hk b o e => ?_)
  · rw [Heap.size_push]
    simp only [List.mem_cons, List.not_mem_nil, or_false] at hb
    rcases hb with rfl | rfl
    · exact Nat.lt_succ_self _
    · exact Nat.lt_succ_of_lt low
  · have := Heap.lt_size e
    exact hk b o (by simp only [List.mem_cons, List.not_mem_nil, or_false]; exact Nat.ne_of_lt this) (Heap.get?_push_of_some _ e)
theorem min_tup {xs : Array (Int × Tok)} {Q : Value → Shared → Prop} (hh : A.handled = none) (ht : s.heap.IsTuple l (intItems xs)) (hne : 0 < xs.size)
    (h : ∀ (v : Value) (h' : Heap) (tk : Nat), (intItems xs)[argBest (fun i j => decide (PySem.numAt xs i < PySem.numAt xs j)) (xs.size - 1)]? = some v → (∀ b o, s.heap.get? b = some o → h'.get? b = some o) → Q v { s with heap := h', toks := tk }) :
    wpAny (model prog w) A (call (.builtin "min") [.ref l]) Q E s := by
  refine call_min_walk (tup_iter ht fun hp e st hf hl old => ?_)
  have z : (intItems xs).size = xs.size := by simp [intItems]
  refine ⟨_, _, _, _, _, _, _, rfl, Walks.tuple (A := A.in1) hh _ l hl (intItems xs), st, hf, by rw [z]; exact hne, CmpOf.ints_lt (PySem.numAt xs) (fun _ _ => intItems_at), fun v h' tk hP hk => ?_⟩
  rw [z] at hP
  exact h v h' tk hP (old h' hk)
end
section
variable {X : Cx}
theorem items_of {its : List Value} {ns : List Int} (rv : Vals (ns.map V.int) its) : ∃ xs : Array (Int × Tok), its.toArray = intItems xs ∧ ns = xs.toList.map (·.1) := by
  have hi := intsAre_of rv
  obtain ⟨xs, e⟩ := hi.allInts.items
  exact ⟨xs, e, by rw [← hi.numsOf, ← nums_intItems, ← e]⟩
theorem call_minT (hc : X.calm = true) : CallR X (.builtin "min") (fun xs H Q => ∃ (p : Addr) (ns : List Int), xs = [.ref p] ∧ SqT X.K H p (ns.map V.int) ∧ 0 < ns.length ∧ ∀ M, M ∈ ns → (∀ a, a ∈ ns → M ≤ a) → Q (.int M) H) := by
  intro pins s σ H xs us Q I r h
  obtain ⟨p, ns, rfl, hq, hn, q⟩ := h
  obtain ⟨u, rfl, ru⟩ := r.one
  cases ru
  obtain ⟨its, rv, pl, hz⟩ := I.tuple hq
  obtain ⟨xs, e, hns⟩ := items_of rv
  have hsz : 0 < xs.size := by rw [hns, List.length_map, Array.length_toList] at hn; exact hn
  rw [e] at pl
  refine min_tup (show X.A.handled = none from I.ok.hd hc) pl hsz fun v h' tk hv hk => ?_
  obtain ⟨t, rfl⟩ := intItems_at hv
  obtain ⟨h1, h2⟩ := argBest_lt (PySem.numAt xs) (xs.size - 1)
  refine ⟨.int (PySem.numAt xs (argBest (fun i j => decide (PySem.numAt xs i < PySem.numAt xs j)) (xs.size - 1))), H, I.kept (t' := tk) hk, ⟨_, rfl⟩, q _ ?_ fun a ha => ?_⟩
  · rw [hns, numAt_eq]; exact getD_mem (by rw [List.length_map, Array.length_toList]; omega)
  · rw [hns] at ha
    obtain ⟨j, hj, rfl⟩ := mem_getD ha
    rw [List.length_map, Array.length_toList] at hj
    rw [← numAt_eq]; exact h2 j (by omega)
theorem call_minL (hc : X.calm = true) : CallR X (.builtin "min") (fun xs H Q => ∃ (p : Addr) (ns : List Int), xs = [.ref p] ∧ SqL X.K H p (ns.map V.int) ∧ 0 < ns.length ∧ ∀ M, M ∈ ns → (∀ a, a ∈ ns → M ≤ a) → Q (.int M) H) := by
  intro pins s σ H xs us Q I r h
  obtain ⟨p, ns, rfl, hq, hn, q⟩ := h
  obtain ⟨u, rfl, ru⟩ := r.one
  cases ru
  obtain ⟨its, rv, pl, hz⟩ := I.list hq
  obtain ⟨xs, e, hns⟩ := items_of rv
  have hsz : 0 < xs.size := by rw [hns, List.length_map, Array.length_toList] at hn; exact hn
  have hl := pl.isList
  rw [e] at hl
  refine min_intList (show X.A.handled = none from I.ok.hd hc) hl hsz fun v h' tk hv hk => ?_
  obtain ⟨t, rfl⟩ := intItems_at hv
  obtain ⟨h1, h2⟩ := argBest_lt (PySem.numAt xs) (xs.size - 1)
  refine ⟨.int (PySem.numAt xs (argBest (fun i j => decide (PySem.numAt xs i < PySem.numAt xs j)) (xs.size - 1))), H, I.kept (t' := tk) hk, ⟨_, rfl⟩, q _ ?_ fun a ha => ?_⟩
  · rw [hns, numAt_eq]; exact getD_mem (by rw [List.length_map, Array.length_toList]; omega)
  · rw [hns] at ha
    obtain ⟨j, hj, rfl⟩ := mem_getD ha
    rw [List.length_map, Array.length_toList] at hj
    rw [← numAt_eq]; exact h2 j (by omega)
end
end L2

set_option maxHeartbeats 4000000
namespace K36
open PySem PySem.Spec PyProof.Rows L2 Am Pc Ba
open Pt hiding kit_tt
inductive Verd (K : PySem.W.Frag) (H : Hp) (c : Nat) : V → Nat → Prop where
  | no {v : V} (n : NoForm K H v) : Verd K H c v 1
  | bad {v : V} (b : BadAt H c v) : Verd K H c v 2
  | fit {p : Addr} {nm : Str} {ns : List Int} (e : H p = some (MvT nm ns)) (f : Fits nm ns c) : Verd K H c (.ref p) 0
theorem Verd.same {K : PySem.W.Frag} {H H' : Hp} {c : Nat} {v : V} {d : Nat} (t : Verd K H c v d) (s : Same H H') : Verd K H' c v d := by
  cases t with
  | no n => exact .no (n.same s)
  | bad b => exact .bad (b.same s)
  | fit e f => exact .fit (s _ _ e) f
def spJudged (K : PySem.W.Frag) : Sp := fun vs H Q _ => ∃ (v : V) (c d : Nat), vs = [v, .int c] ∧ Verd K H c v d ∧ ∀ H', Same H H' → Q (.int d) H'
abbrev SZ : List (Key × V) := [(.inr "flip", .int 2), (.inr "mix", .int 2), (.inr "turn", .int 3), (.inr "if", .int 3), (.inr "pair", .int 3), (.inr "swap", .int 3), (.inr "cross", .int 4)]
theorem sz_num (nm : Str) : (numAt NB nm = none ∧ valV (mergeK [] SZ) (.inr nm) = none) ∨ ∃ n : Int, numAt NB nm = some (.int n) ∧ valV (mergeK [] SZ) (.inr nm) = some (.int (n + 1)) := by
  have em : mergeK [] SZ = SZ := by decide
  rw [em]
  by_cases h1 : nm = "flip"
  · subst h1; exact .inr ⟨1, by decide, by decide⟩
  by_cases h2 : nm = "mix"
  · subst h2; exact .inr ⟨1, by decide, by decide⟩
  by_cases h3 : nm = "turn"
  · subst h3; exact .inr ⟨2, by decide, by decide⟩
  by_cases h4 : nm = "if"
  · subst h4; exact .inr ⟨2, by decide, by decide⟩
  by_cases h5 : nm = "pair"
  · subst h5; exact .inr ⟨2, by decide, by decide⟩
  by_cases h6 : nm = "swap"
  · subst h6; exact .inr ⟨2, by decide, by decide⟩
  by_cases h7 : nm = "cross"
  · subst h7; exact .inr ⟨3, by decide, by decide⟩
  · refine .inl ⟨?_, ?_⟩
    · simp [L2.numAt, txt, valV, Ne.symm h1, Ne.symm h2, Ne.symm h3, Ne.symm h4, Ne.symm h5, Ne.symm h6, Ne.symm h7]
    · simp [valV, Ne.symm h1, Ne.symm h2, Ne.symm h3, Ne.symm h4, Ne.symm h5, Ne.symm h6, Ne.symm h7]
theorem sz_none {nm : Str} (z : numAt NB nm = none) : valV (mergeK [] SZ) (.inr nm) = none := by
  rcases sz_num nm with h | ⟨n, h, _⟩
  · exact h.2
  · rw [z] at h; cases h
theorem sz_some {nm : Str} {n : Int} (z : numAt NB nm = some (.int n)) : valV (mergeK [] SZ) (.inr nm) = some (.int (n + 1)) := by
  rcases sz_num nm with h | ⟨m, h, h'⟩
  · rw [z] at h; cases h.1
  · rw [z] at h; cases h; exact h'
theorem no_zero {nm : Str} (z : L2.numAt NB nm = some (.int (([] : List Int).length : Nat))) : False := by
  have key : ∀ v, L2.numAt NB nm = some v → v = .int 1 ∨ v = .int 2 ∨ v = .int 3 := fun v h => by
    unfold L2.numAt valV at h
    obtain ⟨kv, h1, rfl⟩ := Option.map_eq_some_iff.mp h
    have := List.mem_of_find?_eq_some h1
    simp [txt] at this
    rcases this with rfl | rfl | rfl | rfl | rfl | rfl | rfl <;> simp
  rcases key _ z with h | h | h <;> cases h
section
variable {P : Program} {w : World} {K : PySem.W.Frag} {mg : Str → Option Value} {base : Heap} {k : Nat} {h : Heap}
theorem ok_lwholeP (F : FunAt K "_law_whole" (top 46) .none) (X : K.In h) (G : h.Ns mainGlobals mg) (B : Bs mg) : Cal P w K mg base (k + 1) "_law_whole" ["_law_found"] (spIsWhole K) := by
  have nd := sc_whole.nd
  refine F.cal X G sc_whole (bnd1 fun _ _ _ _ _ _ _ => rfl) (fun vs H Q E h => ?_) (fun f cdv A outer s H vs Q E hr h => ?_)
  · obtain ⟨v, rfl, _⟩ := h; rfl
  obtain ⟨v, rfl, ⟨t, b1, b2, ty, e1, e2, e3⟩, q⟩ := h
  refine ⟨_, (@pss_one _ _ _ (ps_ret (pe_and (pe_callB call_isinst rfl B.isinstance boot_isinstance (pa_cons (pv 0) (pa_cons (pe_bltn (v := .ty "int") rfl B.int boot_int rfl) pa_nil))) (pe_one (pe_not (pe_callB call_isinst rfl B.isinstance boot_isinstance (pa_cons (pv 0) (pa_cons (pe_bltn (v := .ty "bool") rfl B.bool boot_bool rfl) pa_nil)))))))), ?_⟩
  try dsimp only [cxK]
  refine ⟨_, rfl, _, _, _, b1, rfl, ty, e1, _, rfl, blI (fun z => ?_) (fun z => ?_)⟩
  · subst z
    refine ⟨_, rfl, _, _, _, b2, rfl, ty, e2, _, rfl, ?_⟩
    rw [Bool.true_and] at e3
    rw [e3]
    exact q
  · subst z
    rw [Bool.false_and] at e3
    rw [e3]
    exact q
theorem sc_judged : FnScope ["_law_thing", "_law_cells", "_law_sizes", "_law_named"] ["_law_thing", "_law_cells"] (defScope (top 50)) := ⟨rfl, rfl, rfl, by decide +kernel, rfl, by decide +kernel, by decide +kernel⟩
theorem ok_judged (F : FunAt K "_law_judged" (top 50) .none) (X : K.In h) (G : h.Ns mainGlobals mg) (B : Bs mg) (c__law_whole : Cal P w K mg base k "_law_whole" ["_law_found"] (spIsWhole K)) : Cal P w K mg base (k + 1) "_law_judged" ["_law_thing", "_law_cells"] (spJudged K) := by
  have nd := sc_judged.nd
  refine F.cal X G sc_judged (bnd2 fun _ _ _ _ _ _ _ _ => rfl) (fun vs H Q E h => ?_) (fun f cdv A outer s H vs Q E hr h => ?_)
  · obtain ⟨v, c, d, rfl, _⟩ := h; rfl
  obtain ⟨v, c, d, rfl, VD, kq⟩ := h
  refine ⟨_, (@pss_cons _ _ _ _ _ (ps_if (PW.pt (pw_or (pt_not (pt_val (pe_callB call_isinst rfl B.isinstance boot_isinstance (pa_cons (pv 0) (pa_cons (pe_bltn (v := .ty "tuple") rfl B.tuple boot_tuple rfl) pa_nil))))) (pw_or (pt_cmpR op_eq (pe_callB call_len_seq rfl B.len PySem.boot_len (pa_cons (pv 0) pa_nil)) pe_int (nomark _)) (pw_or1 (pt_not (pt_val (pe_callB call_isinst rfl B.isinstance boot_isinstance (pa_cons (pe_ix ix_tup (pv 0) pe_int (fun _ _ => rfl)) (pa_cons (pe_bltn (v := .ty "str") rfl B.str boot_str rfl) pa_nil)))))))))
      (@pss_one _ _ _ (ps_ret pe_int))
      pss_nil)
    (@pss_cons _ _ _ _ _ (@ps_set _ _ 2 _ _ _ _ nd rfl (Or.inl rfl) (pe_disp (pps_cons pe_str pe_int (pps_cons pe_str pe_int (pps_cons pe_str pe_int (pps_cons pe_str pe_int (pps_cons pe_str pe_int (pps_cons pe_str pe_int (pps_cons pe_str pe_int pps_nil))))))) rfl rfl (by simp) (by decide)) rfl (.inl rfl))
    (@pss_cons _ _ _ _ _ (ps_if (PW.pt (pw_or (pt_cmp (pc_dnotin (hu_of hr) (pe_ix ix_tup (pv 0) pe_int (fun _ _ => rfl)) (pv 2))) (pw_or1 (pt_cmpR op_ne (pe_callB call_len_seq rfl B.len PySem.boot_len (pa_cons (pv 0) pa_nil)) (pe_dget (hu_of hr) (pv 2) (pe_ix ix_tup (pv 0) pe_int (fun _ _ => rfl)) (fun _ _ => rfl)) (nomark _)))))
      (@pss_one _ _ _ (ps_ret pe_int))
      pss_nil)
    (@pss_cons _ _ _ _ _ (ps_if (pt_not (pt_val (pe_callB (call_allL rfl) rfl B.all boot_all (pa_cons (pe_lc rfl (LcOk.of (Nc := ["_law_number"]) (mp := [none]) (by kernel_rfl)) (pi_tup (pe_slice sl_tupA (pv 0) (po_some pe_int) po_none)) (fun _ _ _ _ => (pg_name (i := 0) (show (["_law_number"] : List Str).Nodup by decide +kernel) rfl (Or.inl rfl))) (fun _ _ _ _ => (pe_cal c__law_whole hr rfl (pa_cons (pv 0) pa_nil)))) pa_nil))))
      (@pss_one _ _ _ (ps_ret pe_int))
      pss_nil)
    (@pss_cons _ _ _ _ _ (@ps_set _ _ 3 _ _ _ _ nd rfl (Or.inl rfl) (pe_callTy call_list_of rfl B.list boot_list (pa_cons (pe_slice sl_tupA (pv 0) (po_some pe_int) po_none) pa_nil)) rfl (.inl rfl))
    (@pss_cons _ _ _ _ _ (ps_if (pt_cmpR op_eq (pe_ix ix_tup (pv 0) pe_int (fun _ _ => rfl)) pe_str (nomark _))
      (@pss_cons _ _ _ _ _ (ps_if (PW.pt (pw_or (pt_cmpR op_lt (pe_ix ix_list (pv 3) pe_int (fun _ _ => rfl)) pe_int (nomark _)) (pw_or1 (pt_cmpR op_gt (pe_ix ix_list (pv 3) pe_int (fun _ _ => rfl)) pe_int (nomark _)))))
        (@pss_one _ _ _ (ps_ret pe_int))
        pss_nil)
      (@pss_one _ _ _ (@ps_set _ _ 3 _ _ _ _ nd rfl (Or.inl rfl) (pe_slice sl_list (pv 3) po_none (po_some pe_int)) rfl (.inl rfl))))
      pss_nil)
    (@pss_cons _ _ _ _ _ (ps_if (PW.pt (pw_or (pt_cmpR op_lt (pe_callB (call_minL rfl) rfl B.min boot_min (pa_cons (pv 3) pa_nil)) pe_int (nomark _)) (pw_or (pt_cmpR op_ge (pe_callB (call_maxL rfl) rfl B.max boot_max (pa_cons (pv 3) pa_nil)) (pv 1) (nomark _)) (pw_or1 (pt_cmpR op_ne (pe_callB call_lenS rfl B.len PySem.boot_len (pa_cons (pe_callTy (call_setL rfl) rfl B.set boot_set (pa_cons (pv 3) pa_nil)) pa_nil)) (pe_callB call_len_seq rfl B.len PySem.boot_len (pa_cons (pv 3) pa_nil)) (nomark _))))))
      (@pss_one _ _ _ (ps_ret pe_int))
      pss_nil)
    (@pss_one _ _ _ (ps_ret pe_int))))))))), ?_⟩
  try dsimp only [cxK]
  have s0 := Same.refl H
  cases VD with
  | no NF =>
    cases NF with
    | odd ty e => exact ⟨_, rfl, _, _, _, false, rfl, ty, e, _, rfl, iteT (kq _ s0)⟩
    | @nil p e => exact ⟨_, rfl, _, _, _, true, rfl, TyOf.tup e, kit_tt K, _, rfl, iteF ⟨_, rfl, p, _, rfl, .inr (SqT.of e), rfl, _, rfl, eqI (fun _ => kq _ s0) (fun z => absurd rfl z)⟩⟩
    | @head p x xs t e ty e' =>
      refine ⟨_, rfl, _, _, _, true, rfl, TyOf.tup e, kit_tt K, _, rfl, iteF ⟨_, rfl, p, _, rfl, .inr (SqT.of e), rfl, _, rfl, eqI (fun z => absurd z (by simp; omega)) (fun _ => ?_)⟩⟩
      exact ⟨_, rfl, p, _, _, x, rfl, rfl, SqT.of e, at0, _, _, _, false, rfl, ty, e', _, rfl, iteT (kq _ s0)⟩
    | @name p nm xs e z =>
      refine ⟨_, rfl, _, _, _, true, rfl, TyOf.tup e, kit_tt K, _, rfl, iteF ⟨_, rfl, p, _, rfl, .inr (SqT.of e), rfl, _, rfl, eqI (fun z => absurd z (by simp; try omega)) (fun _ => ?_)⟩⟩
      refine ⟨_, rfl, p, _, _, .str nm, rfl, rfl, SqT.of e, at0, _, _, _, true, rfl, TyOf.str nm, kit_ss K, _, rfl, iteF ?_⟩
      refine fun sd hsd => ⟨upd_same, SZ, rfl, by decide, ?_⟩
      have s1 : Same H (upd (upd H sd (.dK [])) sd (.dK (mergeK [] SZ))) := same_upd (same_new hsd _) hsd
      have ed : upd (upd H sd (.dK [])) sd (.dK (mergeK [] SZ)) sd = some (.dK (mergeK [] SZ)) := upd_same
      generalize upd (upd H sd (.dK [])) sd (.dK (mergeK [] SZ)) = H1 at s1 ed ⊢
      have e1 := s1 _ _ e
      refine ⟨_, rfl, p, _, _, .str nm, rfl, rfl, SqT.of e1, at0, _, rfl, sd, _, rfl, DGet.k (k := .inr nm) ed, _, rfl, ?_⟩
      rw [sz_none z]
      exact iteT (kq _ s1)
    | @size p nm xs n e z l =>
      refine ⟨_, rfl, _, _, _, true, rfl, TyOf.tup e, kit_tt K, _, rfl, iteF ⟨_, rfl, p, _, rfl, .inr (SqT.of e), rfl, _, rfl, eqI (fun z => absurd z (by simp; try omega)) (fun _ => ?_)⟩⟩
      refine ⟨_, rfl, p, _, _, .str nm, rfl, rfl, SqT.of e, at0, _, _, _, true, rfl, TyOf.str nm, kit_ss K, _, rfl, iteF ?_⟩
      refine fun sd hsd => ⟨upd_same, SZ, rfl, by decide, ?_⟩
      have s1 : Same H (upd (upd H sd (.dK [])) sd (.dK (mergeK [] SZ))) := same_upd (same_new hsd _) hsd
      have ed : upd (upd H sd (.dK [])) sd (.dK (mergeK [] SZ)) sd = some (.dK (mergeK [] SZ)) := upd_same
      generalize upd (upd H sd (.dK [])) sd (.dK (mergeK [] SZ)) = H1 at s1 ed ⊢
      have e1 := s1 _ _ e
      refine ⟨_, rfl, p, _, _, .str nm, rfl, rfl, SqT.of e1, at0, _, rfl, sd, _, rfl, DGet.k (k := .inr nm) ed, _, rfl, ?_⟩
      rw [sz_some z]
      refine iteF ⟨_, rfl, p, _, rfl, .inr (SqT.of e1), _, rfl, _, rfl, p, _, _, .str nm, rfl, rfl, SqT.of e1, at0, sd, _, rfl, (by rw [← sz_some z]; exact DGet.k (k := .inr nm) ed), rfl, _, rfl, neI (fun _ => kq _ s1) (fun q => absurd q (by simp; omega))⟩
    | @part p nm xs e z l all no =>
      refine ⟨_, rfl, _, _, _, true, rfl, TyOf.tup e, kit_tt K, _, rfl, iteF ⟨_, rfl, p, _, rfl, .inr (SqT.of e), rfl, _, rfl, eqI (fun z => absurd z (by simp; try omega)) (fun _ => ?_)⟩⟩
      refine ⟨_, rfl, p, _, _, .str nm, rfl, rfl, SqT.of e, at0, _, _, _, true, rfl, TyOf.str nm, kit_ss K, _, rfl, iteF ?_⟩
      refine fun sd hsd => ⟨upd_same, SZ, rfl, by decide, ?_⟩
      have s1 : Same H (upd (upd H sd (.dK [])) sd (.dK (mergeK [] SZ))) := same_upd (same_new hsd _) hsd
      have ed : upd (upd H sd (.dK [])) sd (.dK (mergeK [] SZ)) sd = some (.dK (mergeK [] SZ)) := upd_same
      generalize upd (upd H sd (.dK [])) sd (.dK (mergeK [] SZ)) = H1 at s1 ed ⊢
      have e1 := s1 _ _ e
      refine ⟨_, rfl, p, _, _, .str nm, rfl, rfl, SqT.of e1, at0, _, rfl, sd, _, rfl, DGet.k (k := .inr nm) ed, _, rfl, ?_⟩
      rw [sz_some z]
      refine iteF ⟨_, rfl, p, _, rfl, .inr (SqT.of e1), _, rfl, _, rfl, p, _, _, .str nm, rfl, rfl, SqT.of e1, at0, sd, _, rfl, (by rw [← sz_some z]; exact DGet.k (k := .inr nm) ed), rfl, _, rfl, neI (fun q => absurd (by simp) q) (fun _ => ?_)⟩
      refine ⟨_, rfl, _, rfl, p, _, rfl, SqT.of e1, .inr ⟨fun c => absurd c.1 (by rw [one_ix]; decide), fun r hr => ?_⟩⟩
      rw [cut_one]
      have s2 := same_new hr (.tup xs)
      refine ⟨r, rfl, ⟨_, SqT.of upd_same⟩, fun acc hacc => ?_⟩
      refine lc_tupV (K := K) (fun v => .bl (isI v)) (SqT.of upd_same) (t64 (by omega)) hacc (fun v H2 N hv S2 kN => ⟨_, rfl, v, rfl, ((all v hv).same (s1.trans (s2.trans S2))).part, kN⟩) (fun H3 S3 a3 => ?_)
      have e3 : xs.map (fun v => V.bl (isI v)) = (xs.map isI).map V.bl := by rw [List.map_map]; rfl
      rw [e3] at a3
      have al : (xs.map isI).all id = false := by
        obtain ⟨x, hx, ex⟩ := no
        rw [List.all_eq_false]
        exact ⟨false, List.mem_map.mpr ⟨x, hx, ex⟩, by simp⟩
      refine ⟨acc, _, rfl, SqL.of a3, _, rfl, ?_⟩
      rw [al]
      exact iteT (kq _ (s1.trans (s2.trans S3)))
    | @turn p a kk e z =>
      have nt : L2.numAt NB "turn" = some (.int ([a, kk].length : Nat)) := (show L2.numAt NB "turn" = some (.int 2) by decide)
      refine ⟨_, rfl, _, _, _, true, rfl, TyOf.tup e, kit_tt K, _, rfl, iteF ⟨_, rfl, p, _, rfl, .inr (SqT.of e), rfl, _, rfl, eqI (fun z => absurd z (by simp; try omega)) (fun _ => ?_)⟩⟩
      refine ⟨_, rfl, p, _, _, .str "turn", rfl, rfl, SqT.of e, at0, _, _, _, true, rfl, TyOf.str "turn", kit_ss K, _, rfl, iteF ?_⟩
      refine fun sd hsd => ⟨upd_same, SZ, rfl, by decide, ?_⟩
      have s1 : Same H (upd (upd H sd (.dK [])) sd (.dK (mergeK [] SZ))) := same_upd (same_new hsd _) hsd
      have ed : upd (upd H sd (.dK [])) sd (.dK (mergeK [] SZ)) sd = some (.dK (mergeK [] SZ)) := upd_same
      generalize upd (upd H sd (.dK [])) sd (.dK (mergeK [] SZ)) = H1 at s1 ed ⊢
      have e1 := s1 _ _ e
      refine ⟨_, rfl, p, _, _, .str "turn", rfl, rfl, SqT.of e1, at0, _, rfl, sd, _, rfl, DGet.k (k := .inr "turn") ed, _, rfl, ?_⟩
      rw [sz_some nt]
      refine iteF ⟨_, rfl, p, _, rfl, .inr (SqT.of e1), _, rfl, _, rfl, p, _, _, .str "turn", rfl, rfl, SqT.of e1, at0, sd, _, rfl, (by rw [← sz_some nt]; exact DGet.k (k := .inr "turn") ed), rfl, _, rfl, neI (fun q => absurd (by simp) q) (fun _ => ?_)⟩
      refine ⟨_, rfl, _, rfl, p, _, rfl, SqT.of e1, .inr ⟨fun c => absurd c.1 (by rw [one_ix]; decide), fun r hr => ?_⟩⟩
      rw [cut_one]
      have s2 := same_new hr (.tup ([a, kk].map V.int))
      refine ⟨r, rfl, ⟨_, SqT.of upd_same⟩, fun acc hacc => ?_⟩
      refine lc_tupM (K := K) (ns := [a, kk]) (fun _ => .bl true) (SqT.of upd_same) (t64 (by simp)) hacc (fun n H2 N hn S2 kN => ⟨_, rfl, .int n, rfl, Part.int n, kN⟩) (fun H3 S3 a3 => ?_)
      have e3 : [a, kk].map (fun _ => V.bl true) = ([a, kk].map fun _ => true).map V.bl := by rw [List.map_map]; rfl
      rw [e3] at a3
      refine ⟨acc, _, rfl, SqL.of a3, _, rfl, ?_⟩
      rw [show ([a, kk].map fun _ => true).all id = true by simp]
      refine iteF ?_
      have s4 := s1.trans (s2.trans S3)
      have e4 := s4 _ _ e
      clear a3 s2 hr hacc
      refine ⟨_, rfl, _, rfl, p, _, rfl, SqT.of e4, .inr ⟨fun c => absurd c.1 (by rw [one_ix]; decide), fun r2 hr2 => ?_⟩⟩
      rw [cut_one]
      refine ⟨r2, _, rfl, .inr (SqT.of upd_same), fun ln hln => ?_⟩
      have s5 := s4.trans ((same_new hr2 (.tup ([a, kk].map V.int))).trans (same_new hln (.lst ([a, kk].map V.int))))
      have ael : upd (upd H3 r2 (.tup ([a, kk].map V.int))) ln (.lst ([a, kk].map V.int)) ln = some (.lst ([a, kk].map V.int)) := upd_same
      generalize upd (upd H3 r2 (.tup ([a, kk].map V.int))) ln (.lst ([a, kk].map V.int)) = H5 at s5 ael ⊢
      have SP5 : SqT K H5 p (.str "turn" :: [a, kk].map V.int) := SqT.of (s5 _ _ e)
      refine ⟨_, rfl, p, _, _, .str "turn", rfl, rfl, SP5, at0, rfl, _, rfl, ?_⟩
      show if decide (V.str "turn" = V.str "turn") = true then _ else _
      rw [decide_eq_true rfl]
      refine iteT ⟨_, rfl, ln, _, _, .int kk, rfl, rfl, SqL.of ael, rfl, _, _, rfl, rfl, _, rfl, decI (fun _ => kq _ s5) (fun k1 => ?_)⟩
      exact ⟨_, rfl, ln, _, _, .int kk, rfl, rfl, SqL.of ael, rfl, _, _, rfl, rfl, _, rfl, decI (fun _ => kq _ s5) (fun k2 => absurd z (by omega))⟩
  | @bad _ b =>
    obtain ⟨p, nm, ns, rfl, e, BC⟩ := b
    have nt := BC.form.num
    have l3 := BC.form.len
    refine ⟨_, rfl, _, _, _, true, rfl, TyOf.tup e, kit_tt K, _, rfl, iteF ⟨_, rfl, p, _, rfl, .inr (SqT.of e), rfl, _, rfl, eqI (fun z => absurd z (by simp; try omega)) (fun _ => ?_)⟩⟩
    refine ⟨_, rfl, p, _, _, .str nm, rfl, rfl, SqT.of e, at0, _, _, _, true, rfl, TyOf.str nm, kit_ss K, _, rfl, iteF ?_⟩
    refine fun sd hsd => ⟨upd_same, SZ, rfl, by decide, ?_⟩
    have s1 : Same H (upd (upd H sd (.dK [])) sd (.dK (mergeK [] SZ))) := same_upd (same_new hsd _) hsd
    have ed : upd (upd H sd (.dK [])) sd (.dK (mergeK [] SZ)) sd = some (.dK (mergeK [] SZ)) := upd_same
    generalize upd (upd H sd (.dK [])) sd (.dK (mergeK [] SZ)) = H1 at s1 ed ⊢
    have e1 := s1 _ _ e
    refine ⟨_, rfl, p, _, _, .str nm, rfl, rfl, SqT.of e1, at0, _, rfl, sd, _, rfl, DGet.k (k := .inr nm) ed, _, rfl, ?_⟩
    rw [sz_some nt]
    refine iteF ⟨_, rfl, p, _, rfl, .inr (SqT.of e1), _, rfl, _, rfl, p, _, _, .str nm, rfl, rfl, SqT.of e1, at0, sd, _, rfl, (by rw [← sz_some nt]; exact DGet.k (k := .inr nm) ed), rfl, _, rfl, neI (fun q => absurd (by simp) q) (fun _ => ?_)⟩
    refine ⟨_, rfl, _, rfl, p, _, rfl, SqT.of e1, .inr ⟨fun c => absurd c.1 (by rw [one_ix]; decide), fun r hr => ?_⟩⟩
    rw [cut_one]
    have s2 := same_new hr (.tup (ns.map V.int))
    refine ⟨r, rfl, ⟨_, SqT.of upd_same⟩, fun acc hacc => ?_⟩
    refine lc_tupM (K := K) (ns := ns) (fun _ => .bl true) (SqT.of upd_same) (t64 (by omega)) hacc (fun n H2 N hn S2 kN => ⟨_, rfl, .int n, rfl, Part.int n, kN⟩) (fun H3 S3 a3 => ?_)
    have e3 : ns.map (fun _ => V.bl true) = (ns.map fun _ => true).map V.bl := by rw [List.map_map]; rfl
    rw [e3] at a3
    refine ⟨acc, _, rfl, SqL.of a3, _, rfl, ?_⟩
    rw [show (ns.map fun _ => true).all id = true by simp]
    refine iteF ?_
    have s4 := s1.trans (s2.trans S3)
    have e4 := s4 _ _ e
    clear a3 s2 hr hacc
    refine ⟨_, rfl, _, rfl, p, _, rfl, SqT.of e4, .inr ⟨fun c => absurd c.1 (by rw [one_ix]; decide), fun r2 hr2 => ?_⟩⟩
    rw [cut_one]
    refine ⟨r2, _, rfl, .inr (SqT.of upd_same), fun ln hln => ?_⟩
    have s5 := s4.trans ((same_new hr2 (.tup (ns.map V.int))).trans (same_new hln (.lst (ns.map V.int))))
    have ael : upd (upd H3 r2 (.tup (ns.map V.int))) ln (.lst (ns.map V.int)) ln = some (.lst (ns.map V.int)) := upd_same
    generalize upd (upd H3 r2 (.tup (ns.map V.int))) ln (.lst (ns.map V.int)) = H5 at s5 ael ⊢
    have SP5 : SqT K H5 p (.str nm :: ns.map V.int) := SqT.of (s5 _ _ e)
    refine ⟨_, rfl, p, _, _, .str nm, rfl, rfl, SP5, at0, rfl, _, rfl, ?_⟩
    show if decide (V.str nm = V.str "turn") = true then _ else _
    by_cases ht : nm = "turn"
    · obtain ⟨a, kk, rfl, k1, k7⟩ := BC.form.turn ht
      subst ht
      rw [decide_eq_true rfl]
      refine iteT ⟨_, rfl, ln, _, _, .int kk, rfl, rfl, SqL.of ael, rfl, _, _, rfl, rfl, _, rfl, decI (fun z => absurd z (by omega)) (fun _ => ?_)⟩
      refine ⟨_, rfl, ln, _, _, .int kk, rfl, rfl, SqL.of ael, rfl, _, _, rfl, rfl, _, rfl, decI (fun z => absurd z (by omega)) (fun _ => ?_)⟩
      refine ⟨_, rfl, _, rfl, ln, _, rfl, SqL.of ael, fun l6 hl6 => ?_⟩
      have ae6 : upd H5 l6 (.lst (cutV ([a, kk].map V.int) none (some 1))) l6 = some (.lst ([a].map V.int)) := by rw [upd_same]; rfl
      have s6 := s5.trans (same_new hl6 (.lst (cutV ([a, kk].map V.int) none (some 1))))
      generalize upd H5 l6 (.lst (cutV ([a, kk].map V.int) none (some 1))) = H6 at ae6 s6 ⊢
      have en : named "turn" [a, kk] = [a] := rfl
      refine ⟨_, rfl, l6, [a], rfl, SqL.of ae6, (by simp), fun mn mn1 mn2 => ⟨_, _, rfl, rfl, _, rfl, decI (fun z => kq _ s6) (fun z1 => ?_)⟩⟩
      refine ⟨_, rfl, l6, [a], rfl, SqL.of ae6, (by simp), fun mx mx1 mx2 => ⟨_, rfl, _, _, rfl, rfl, _, rfl, decI (fun z => kq _ s6) (fun z2 => ?_)⟩⟩
      refine ⟨_, rfl, l6, [a], rfl, SqL.of ae6, (by simp), fun sl S hl => ?_⟩
      have s9 := same_new hl (.set S (unlike [a]))
      have ul := unlike_le (ns := [a])
      refine ⟨sl, S, _, rfl, upd_same, (by simp only [List.length_cons, List.length_nil] at ul; omega), _, rfl, l6, _, rfl, .inl (SqL.of (s9 _ _ ae6)), rfl, _, rfl, neI (fun z => kq _ (s6.trans s9)) (fun z3 => ?_)⟩
      exfalso
      rcases BC.bad with ⟨b, hb, q⟩ | q
      · rw [en] at hb
        have q1 := mn2 b hb
        have q2 := mx2 b hb
        omega
      · rw [en] at q
        have := unlike_lt q (by simp)
        simp only [List.length_map] at z3
        omega
    · rw [decide_eq_false (fun z => ht (V.str.inj z))]
      have en : named nm ns = ns := if_neg ht
      have n0 : 0 < ns.length := by
        cases ns with
        | nil => exact absurd BC.form.num (by intro z; exact no_zero z)
        | cons => simp
      refine iteF ?_
      refine ⟨_, rfl, ln, ns, rfl, SqL.of ael, (by omega), fun mn mn1 mn2 => ⟨_, _, rfl, rfl, _, rfl, decI (fun z => kq _ s5) (fun z1 => ?_)⟩⟩
      refine ⟨_, rfl, ln, ns, rfl, SqL.of ael, (by omega), fun mx mx1 mx2 => ⟨_, rfl, _, _, rfl, rfl, _, rfl, decI (fun z => kq _ s5) (fun z2 => ?_)⟩⟩
      refine ⟨_, rfl, ln, ns, rfl, SqL.of ael, (by omega), fun sl S hl => ?_⟩
      have s9 := same_new hl (.set S (unlike ns))
      have ul := unlike_le (ns := ns)
      refine ⟨sl, S, _, rfl, upd_same, (by omega), _, rfl, ln, _, rfl, .inl (SqL.of (s9 _ _ ael)), rfl, _, rfl, neI (fun z => kq _ (s5.trans s9)) (fun z3 => ?_)⟩
      exfalso
      rcases BC.bad with ⟨b, hb, q⟩ | q
      · rw [en] at hb
        have q1 := mn2 b hb
        have q2 := mx2 b hb
        omega
      · rw [en] at q
        have := unlike_lt q (by omega)
        simp only [List.length_map] at z3
        omega
  | @fit p nm ns e FI =>
    have nt := FI.form.num
    have l3 := FI.form.len
    refine ⟨_, rfl, _, _, _, true, rfl, TyOf.tup e, kit_tt K, _, rfl, iteF ⟨_, rfl, p, _, rfl, .inr (SqT.of e), rfl, _, rfl, eqI (fun z => absurd z (by simp; try omega)) (fun _ => ?_)⟩⟩
    refine ⟨_, rfl, p, _, _, .str nm, rfl, rfl, SqT.of e, at0, _, _, _, true, rfl, TyOf.str nm, kit_ss K, _, rfl, iteF ?_⟩
    refine fun sd hsd => ⟨upd_same, SZ, rfl, by decide, ?_⟩
    have s1 : Same H (upd (upd H sd (.dK [])) sd (.dK (mergeK [] SZ))) := same_upd (same_new hsd _) hsd
    have ed : upd (upd H sd (.dK [])) sd (.dK (mergeK [] SZ)) sd = some (.dK (mergeK [] SZ)) := upd_same
    generalize upd (upd H sd (.dK [])) sd (.dK (mergeK [] SZ)) = H1 at s1 ed ⊢
    have e1 := s1 _ _ e
    refine ⟨_, rfl, p, _, _, .str nm, rfl, rfl, SqT.of e1, at0, _, rfl, sd, _, rfl, DGet.k (k := .inr nm) ed, _, rfl, ?_⟩
    rw [sz_some nt]
    refine iteF ⟨_, rfl, p, _, rfl, .inr (SqT.of e1), _, rfl, _, rfl, p, _, _, .str nm, rfl, rfl, SqT.of e1, at0, sd, _, rfl, (by rw [← sz_some nt]; exact DGet.k (k := .inr nm) ed), rfl, _, rfl, neI (fun q => absurd (by simp) q) (fun _ => ?_)⟩
    refine ⟨_, rfl, _, rfl, p, _, rfl, SqT.of e1, .inr ⟨fun c => absurd c.1 (by rw [one_ix]; decide), fun r hr => ?_⟩⟩
    rw [cut_one]
    have s2 := same_new hr (.tup (ns.map V.int))
    refine ⟨r, rfl, ⟨_, SqT.of upd_same⟩, fun acc hacc => ?_⟩
    refine lc_tupM (K := K) (ns := ns) (fun _ => .bl true) (SqT.of upd_same) (t64 (by omega)) hacc (fun n H2 N hn S2 kN => ⟨_, rfl, .int n, rfl, Part.int n, kN⟩) (fun H3 S3 a3 => ?_)
    have e3 : ns.map (fun _ => V.bl true) = (ns.map fun _ => true).map V.bl := by rw [List.map_map]; rfl
    rw [e3] at a3
    refine ⟨acc, _, rfl, SqL.of a3, _, rfl, ?_⟩
    rw [show (ns.map fun _ => true).all id = true by simp]
    refine iteF ?_
    have s4 := s1.trans (s2.trans S3)
    have e4 := s4 _ _ e
    clear a3 s2 hr hacc
    refine ⟨_, rfl, _, rfl, p, _, rfl, SqT.of e4, .inr ⟨fun c => absurd c.1 (by rw [one_ix]; decide), fun r2 hr2 => ?_⟩⟩
    rw [cut_one]
    refine ⟨r2, _, rfl, .inr (SqT.of upd_same), fun ln hln => ?_⟩
    have s5 := s4.trans ((same_new hr2 (.tup (ns.map V.int))).trans (same_new hln (.lst (ns.map V.int))))
    have ael : upd (upd H3 r2 (.tup (ns.map V.int))) ln (.lst (ns.map V.int)) ln = some (.lst (ns.map V.int)) := upd_same
    generalize upd (upd H3 r2 (.tup (ns.map V.int))) ln (.lst (ns.map V.int)) = H5 at s5 ael ⊢
    have SP5 : SqT K H5 p (.str nm :: ns.map V.int) := SqT.of (s5 _ _ e)
    refine ⟨_, rfl, p, _, _, .str nm, rfl, rfl, SP5, at0, rfl, _, rfl, ?_⟩
    show if decide (V.str nm = V.str "turn") = true then _ else _
    by_cases ht : nm = "turn"
    · obtain ⟨a, kk, rfl, k1, k7⟩ := FI.form.turn ht
      subst ht
      rw [decide_eq_true rfl]
      refine iteT ⟨_, rfl, ln, _, _, .int kk, rfl, rfl, SqL.of ael, rfl, _, _, rfl, rfl, _, rfl, decI (fun z => absurd z (by omega)) (fun _ => ?_)⟩
      refine ⟨_, rfl, ln, _, _, .int kk, rfl, rfl, SqL.of ael, rfl, _, _, rfl, rfl, _, rfl, decI (fun z => absurd z (by omega)) (fun _ => ?_)⟩
      refine ⟨_, rfl, _, rfl, ln, _, rfl, SqL.of ael, fun l6 hl6 => ?_⟩
      have ae6 : upd H5 l6 (.lst (cutV ([a, kk].map V.int) none (some 1))) l6 = some (.lst ([a].map V.int)) := by rw [upd_same]; rfl
      have s6 := s5.trans (same_new hl6 (.lst (cutV ([a, kk].map V.int) none (some 1))))
      generalize upd H5 l6 (.lst (cutV ([a, kk].map V.int) none (some 1))) = H6 at ae6 s6 ⊢
      have en : named "turn" [a, kk] = [a] := rfl
      refine ⟨_, rfl, l6, [a], rfl, SqL.of ae6, (by simp), fun mn mn1 mn2 => ⟨_, _, rfl, rfl, _, rfl, decI (fun z => absurd z (by have := FI.low mn (by rw [en]; exact mn1); omega)) (fun z1 => ?_)⟩⟩
      refine ⟨_, rfl, l6, [a], rfl, SqL.of ae6, (by simp), fun mx mx1 mx2 => ⟨_, rfl, _, _, rfl, rfl, _, rfl, decI (fun z => absurd z (by have := FI.low mx (by rw [en]; exact mx1); omega)) (fun z2 => ?_)⟩⟩
      refine ⟨_, rfl, l6, [a], rfl, SqL.of ae6, (by simp), fun sl S hl => ?_⟩
      have s9 := same_new hl (.set S (unlike [a]))
      have ul := unlike_le (ns := [a])
      refine ⟨sl, S, _, rfl, upd_same, (by simp only [List.length_cons, List.length_nil] at ul; omega), _, rfl, l6, _, rfl, .inl (SqL.of (s9 _ _ ae6)), rfl, _, rfl, neI (fun z => absurd (by have := unlike_nodup (ns := [a]) (by rw [← en]; exact FI.nd); rw [this, List.length_map]) z) (fun z3 => ?_)⟩
      exact kq _ (s6.trans s9)
    · rw [decide_eq_false (fun z => ht (V.str.inj z))]
      have en : named nm ns = ns := if_neg ht
      have n0 : 0 < ns.length := by
        cases ns with
        | nil => exact absurd FI.form.num (by intro z; exact no_zero z)
        | cons => simp
      refine iteF ?_
      refine ⟨_, rfl, ln, ns, rfl, SqL.of ael, (by omega), fun mn mn1 mn2 => ⟨_, _, rfl, rfl, _, rfl, decI (fun z => absurd z (by have := FI.low mn (by rw [en]; exact mn1); omega)) (fun z1 => ?_)⟩⟩
      refine ⟨_, rfl, ln, ns, rfl, SqL.of ael, (by omega), fun mx mx1 mx2 => ⟨_, rfl, _, _, rfl, rfl, _, rfl, decI (fun z => absurd z (by have := FI.low mx (by rw [en]; exact mx1); omega)) (fun z2 => ?_)⟩⟩
      refine ⟨_, rfl, ln, ns, rfl, SqL.of ael, (by omega), fun sl S hl => ?_⟩
      have s9 := same_new hl (.set S (unlike ns))
      have ul := unlike_le (ns := ns)
      refine ⟨sl, S, _, rfl, upd_same, (by omega), _, rfl, ln, _, rfl, .inl (SqL.of (s9 _ _ ael)), rfl, _, rfl, neI (fun z => absurd (by have := unlike_nodup (ns := ns) (by rw [← en]; exact FI.nd); rw [this, List.length_map]) z) (fun z3 => ?_)⟩
      exact kq _ (s5.trans s9)
end
end K36

set_option maxHeartbeats 4000000
/-! a def called behind an except: an exception is being handled meanwhile -/
namespace L2
open PySem PySem.Spec PyProof.Rows Ex
section
variable {X : Cx} {k : Nat} {x : Str} {ps : List Str} {sp : Sp} {p pos : Pos} {e : Expr} {es : List Expr} {t : TA} {E : XK}
end
end L2

/-! isinstance of a caught exception, by a tuple of classes -/
namespace L2
open PySem PySem.Spec PyProof.Rows
theorem refs_of : ∀ {cs : List Addr} {its : List Value}, Vals (cs.map V.ref) its → its = cs.map Value.ref
  | [], _, .nil => rfl
  | c :: r, _, .cons h hs => by
    cases h
    rw [refs_of hs]
    rfl
section
variable {X : Cx}
theorem call_isinstET : CallR X (.builtin "isinstance") (fun xs H Q => ∃ (a C p : Addr) (cs : List Addr) (b : Bool), xs = [.ref a, .ref p] ∧ H a = some (ExcO a (.ref C)) ∧ PySem.W.ExcG X.K C ∧ SqT X.K H p (cs.map V.ref) ∧ PySem.W.kitAny X.K (.ref C) (cs.map Value.ref) = some b ∧ Q (.bl b) H) := by
  intro pins s σ H xs us Q I r h
  obtain ⟨a, C, p, cs, b, rfl, hH, kx, hp, e, q⟩ := h
  obtain ⟨u, v, rfl, ru, rv⟩ := r.two
  cases ru
  cases rv
  obtain ⟨its, rr, ⟨o', e', hc, n, hd⟩, _⟩ := I.tuple hp
  have := refs_of rr
  subst this
  obtain ⟨c, dd, dt, sl⟩ := o'
  replace hc : c = .type "tuple" := hc
  replace hd : dt = .seq (cs.map Value.ref).toArray n := hd
  subst hc hd
  obtain ⟨⟨o, vs, q1, ⟨q2, q3⟩, q4⟩, _, _⟩ := (show ObjOk X.prog X.w H s.heap a (ExcO a (.ref C)) from I.hok a _ hH)
  refine PySem.W.kia_tup (PySem.W.kitx_excG kx) I.kIn ⟨o, q1, q2, ?_, ?_⟩ e' e (fun z => nomatch z) fun tk => ⟨.bl b, H, I.tok tk, rfl, q⟩
  · unfold PySem.W.notCls; rw [q4]
  · rw [q3]; trivial
theorem call_isinstETH {e : Addr} : CallR (Xh X e) (.builtin "isinstance") (fun xs H Q => ∃ (a C p : Addr) (cs : List Addr) (b : Bool), xs = [.ref a, .ref p] ∧ H a = some (ExcO a (.ref C)) ∧ PySem.W.ExcG X.K C ∧ SqT X.K H p (cs.map V.ref) ∧ PySem.W.kitAny X.K (.ref C) (cs.map Value.ref) = some b ∧ Q (.bl b) H) := call_isinstET
end
end L2

set_option maxHeartbeats 4000000
namespace L2
open PySem PySem.Spec PyProof.Rows
theorem call_isinstEH {X : Cx} {e : Addr} : CallR (Xh X e) (.builtin "isinstance") (fun xs H Q => ∃ a C c cv b, xs = [.ref a, c] ∧ H a = some (ExcO a (.ref C)) ∧ PySem.W.ExcG X.K C ∧ clV c = some cv ∧ PySem.W.kitOne X.K (.ref C) cv = some b ∧ Q (.bl b) H) := call_isinstE
theorem call_len_seqK {X : Cx} {K : PySem.W.Frag} (hK : X.K = K) : CallR X (.builtin "len") (fun xs H Q => ∃ p ys, xs = [.ref p] ∧ (SqL K H p ys ∨ SqT K H p ys) ∧ Q (.int ys.length) H) := by subst hK; exact call_len_seq
theorem pe_bm0K {X : Cx} {K : PySem.W.Frag} {o : PySem.Expr} {to : TE} {name : Str} {apos cpos : Pos} {T id : String} {r : V → List V → Hp → VK → Prop} (pa : PlainAttrs T) (slot : Slot T name id) (hty : typeOf (.builtin id) = pure (.type "method_descriptor")) (hm : MtR X id r) (ho : PE X o to)
    (hK : X.K = K := by rfl) (hbase : attributeBase o name X.env (eval o X.env) = eval o X.env := by rfl) (hline : (apos.endLine == cpos.line) = true := by rfl) : PE X (.Call (.Attribute o name apos) [] [] cpos) (tBM0 K T r to) := by subst hK; exact pe_bm0 pa slot hty hm ho hbase hline
end L2
namespace K36
open PySem PySem.Spec PyProof.Rows L2 Am Pc Ba
open Pt hiding kit_tt
theorem s2l : (2 : Nat) ≤ sizeLine := by decide
theorem boot_VE : bootBuiltins "ValueError" = some (.type "ValueError") := by decide +kernel
-- C is NoMove or NoCell, D is BoardError
set_option genInjectivity false in
set_option genSizeOf false in
structure Exs (K : PySem.W.Frag) (mg : Str → Option Value) (C D : Addr) (bm bm' : List Value) (bM bC : Bool) where
  mD : mg "BoardError" = some (.ref D)
  mV : mg "ValueError" = none
  xC : ExcAt K C bm
  xD : ExcAt K D bm'
  sub : (Value.ref C :: bm).contains (.ref D) = true
  kC : PySem.W.ExcG K C
  ve : PySem.W.kitOne K (.ref C) (.type "ValueError") = some true
  a_NeverSo : Addr
  mo_NeverSo : mg "NeverSo" = some (.ref a_NeverSo)
  a_NoAmount : Addr
  mo_NoAmount : mg "NoAmount" = some (.ref a_NoAmount)
  a_NoBoard : Addr
  mo_NoBoard : mg "NoBoard" = some (.ref a_NoBoard)
  a_NoMark : Addr
  mo_NoMark : mg "NoMark" = some (.ref a_NoMark)
  a_NoShare : Addr
  mo_NoShare : mg "NoShare" = some (.ref a_NoShare)
  a_NoTable : Addr
  mo_NoTable : mg "NoTable" = some (.ref a_NoTable)
  a_NoText : Addr
  mo_NoText : mg "NoText" = some (.ref a_NoText)
  a_NotBorne : Addr
  mo_NotBorne : mg "NotBorne" = some (.ref a_NotBorne)
  a_Unguarded : Addr
  mo_Unguarded : mg "Unguarded" = some (.ref a_Unguarded)
  a_NoMove : Addr
  mo_NoMove : mg "NoMove" = some (.ref a_NoMove)
  a_NoCell : Addr
  mo_NoCell : mg "NoCell" = some (.ref a_NoCell)
  k1 : PySem.W.kitAny K (.ref C) [.ref a_NeverSo, .ref a_NoAmount, .ref a_NoBoard, .ref a_NoMark, .ref a_NoShare, .ref a_NoTable] = some false
  k2 : PySem.W.kitAny K (.ref C) [.ref a_NoText, .ref a_NotBorne, .ref a_Unguarded] = some false
  kM : PySem.W.kitOne K (.ref C) (.ref a_NoMove) = some bM
  kK : PySem.W.kitOne K (.ref C) (.ref a_NoCell) = some bC
def spRefX (K : PySem.W.Frag) (Bd : BadP) (bM bC : Bool) : Sp := fun vs H Q _ => ((∃ (way : Nat) (v : V) (l lr : Addr) (xs : List V) (c : Nat), vs = [.int (way : Nat), v, .ref l, .ref lr] ∧ way < 2 ∧ SqL K H l xs ∧ xs.length = 2 ^ c ∧ c ≤ 6 ∧ Bd H c v) ∨
  (∃ (u : V) (l lr : Addr) (ps rp : List Addr) (f : Nat → A5) (c n M : Nat) (ms : List Gm) (v : V) (rest : List V), vs = [.int 2, u, .ref l, .ref lr] ∧ H lr = some (.lst (rp.map V.ref ++ v :: rest)) ∧ rest.length ≤ 200 ∧ Mvs H rp ms ∧ (∀ m ∈ ms, m.Ok c) ∧ ms.length ≤ 200 ∧ Bd5 K H l ps f c n M ∧ c ≤ 6 ∧ M ≤ 300 ∧ n ≤ 210000 ∧ (∀ H', Same H H' → Bd H' c v))) ∧
  ∀ (t : Addr) (H' : Hp), Same H H' → H' t = some (.tup [.bl bM, .bl bC]) → Q (.ref t) H'
def spRefG (K : PySem.W.Frag) : Sp := fun vs H Q _ => ∃ (way : Nat) (v : V) (l lr : Addr), vs = [.int (way : Nat), v, .ref l, .ref lr] ∧ ((way = 0 ∧ ∃ (p : Addr) (nm : Str) (ns : List Int) (xs : List V) (c : Nat), v = .ref p ∧ H p = some (MvT nm ns) ∧ Fits nm ns c ∧ SqL K H l xs ∧ xs.length = 2 ^ c ∧ c ≤ 6) ∨
  (way = 1 ∧ ∃ (p : Addr) (ps : List Addr) (f : Nat → A5) (c n M : Nat) (m : Gm), v = .ref p ∧ H p = some (MvT m.nm m.ns) ∧ m.Ok c ∧ Bd5 K H l ps f c n M ∧ c ≤ 6 ∧ n ≤ 450000 ∧ M ≤ 10000) ∨
  (way = 2 ∧ ∃ (ps rp : List Addr) (f : Nat → A5) (c n M : Nat) (ms : List Gm), Rw H lr rp ms c ∧ Bd5 K H l ps f c n M ∧ c ≤ 6 ∧ M ≤ 300 ∧ n ≤ 210000)) ∧
  ∀ (t : Addr) (H' : Hp), Same H H' → H' t = some (.tup [.bl false, .bl false]) → Q (.ref t) H'
section
variable {P : Program} {w : World} {K : PySem.W.Frag} {mg : Str → Option Value} {base : Heap} {k : Nat} {h : Heap} {C D : Addr} {bm bm' : List Value} {bM bC : Bool}
theorem sc_refused : FnScope ["_law_way", "_law_thing", "_law_board", "_law_row", "e", "_law_others"] ["_law_way", "_law_thing", "_law_board", "_law_row"] (defScope (top 51)) := ⟨rfl, rfl, rfl, by decide +kernel, rfl, by decide +kernel, by decide +kernel⟩
theorem ok_refusedX {Bd : BadP} (F : FunAt K "_law_refused" (top 51) .none) (X : K.In h) (G : h.Ns mainGlobals mg) (B : Bs mg) (x : Exs K mg C D bm bm' bM bC) (x_check : CalX P w K mg base k "check_move" ["move", "cells"] (spChkX Bd C)) (x_turn : CalX P w K mg base k "turned" ["board", "move"] (spTurnX K Bd C)) (x_run : CalX P w K mg base k "run" ["board", "row"] (spRunX K Bd C)) : Cal P w K mg base (k + 1) "_law_refused" ["_law_way", "_law_thing", "_law_board", "_law_row"] (spRefX K Bd bM bC) := by
  have nd := sc_refused.nd
  refine F.cal X G sc_refused (bnd4 fun _ _ _ _ _ _ _ _ _ _ => rfl) (fun vs H Q E h => ?_) (fun fa cdv A outer s H vs Q E hr h => ?_)
  · obtain ⟨⟨way, v, l, lr, xs, c, rfl, _⟩ | ⟨u, l, lr, ps, rp, f, c, n, M, ms, v, rest, rfl, _⟩, _⟩ := h <;> rfl
  obtain ⟨hv, kq⟩ := h
  obtain ⟨v4, w1, w2, w3, hvs⟩ : ∃ v4 w1 w2 w3, vs = [v4, w1, w2, w3] := by
    rcases hv with ⟨way, v, l, lr, xs, c, rfl, _⟩ | ⟨u, l, lr, ps, rp, f, c, n, M, ms, v, rest, rfl, _⟩ <;> exact ⟨_, _, _, _, rfl⟩
  refine ⟨_, (@pss_cons _ _ _ _ _ (ps_try (E := fun cls _ H' => cls = .ref C ∧ Same H H') (i := 4) ⟨rfl, rfl⟩ nd rfl rfl rfl x.mD x.xC x.xD x.sub (fun _ _ z => z.1)
      (fun pins σ => @pss_one _ _ _ (ps_if (pt_cmpR op_eq (pv 0) pe_int (nomark _)) (@pss_one _ _ _ (ps_expr (pe_calT (σ0 := σ) x_check hr rfl (pa_cons (pv 1) (pa_cons (pe_op op_sub (pe_bm0K (K := K) PySem.F.plainAttrs_int PySem.F.slot_int_bit_length PySem.F.type_int_bit_length mt_bitlen (pe_callB (call_len_seqK (K := K) (by rfl)) rfl B.len PySem.boot_len (pa_cons (pv 2) pa_nil))) pe_int) pa_nil))))) (@pss_one _ _ _ (ps_if (pt_cmpR op_eq (pv 0) pe_int (nomark _)) (@pss_one _ _ _ (ps_expr (pe_calT (σ0 := σ) x_turn hr rfl (pa_cons (pv 2) (pa_cons (pv 1) pa_nil))))) (@pss_one _ _ _ (ps_expr (pe_calT (σ0 := σ) x_run hr rfl (pa_cons (pv 2) (pa_cons (pv 3) pa_nil)))))))))
      (fun a => @pss_cons _ _ _ _ _ (@ps_set _ _ 5 _ _ _ _ nd rfl (Or.inl rfl) (pe_callB call_isinstETH rfl B.isinstance boot_isinstance (pa_cons (pv 4) (pa_cons (@pe_tup _ _ _ _ _ (pa_cons (pe_own rfl (x.mo_NeverSo)) (pa_cons (pe_own rfl (x.mo_NoAmount)) (pa_cons (pe_own rfl (x.mo_NoBoard)) (pa_cons (pe_own rfl (x.mo_NoMark)) (pa_cons (pe_own rfl (x.mo_NoShare)) (pa_cons (pe_own rfl (x.mo_NoTable)) pa_nil))))))) pa_nil))) rfl (.inl rfl))
        (@pss_cons _ _ _ _ _ (ps_if (PW.pt (pw_or (pt_val (pv 5)) (pw_or (pt_val (pe_callB call_isinstETH rfl B.isinstance boot_isinstance (pa_cons (pv 4) (pa_cons (@pe_tup _ _ _ _ _ (pa_cons (pe_own rfl (x.mo_NoText)) (pa_cons (pe_own rfl (x.mo_NotBorne)) (pa_cons (pe_own rfl (x.mo_Unguarded)) pa_nil)))) pa_nil)))) (pw_or1 (pt_not (pt_val (pe_callB call_isinstEH rfl B.isinstance boot_isinstance (pa_cons (pv 4) (pa_cons (pe_bltn (v := .ty "ValueError") rfl x.mV boot_VE rfl) pa_nil))))))))) (@pss_one _ _ _ (ps_ret pe_non)) pss_nil)
        (@pss_one _ _ _ (ps_ret (@pe_tup _ _ _ _ _ (pa_cons (pe_callB call_isinstEH rfl B.isinstance boot_isinstance (pa_cons (pv 4) (pa_cons (pe_own rfl (x.mo_NoMove)) pa_nil))) (pa_cons (pe_callB call_isinstEH rfl B.isinstance boot_isinstance (pa_cons (pv 4) (pa_cons (pe_own rfl (x.mo_NoCell)) pa_nil))) pa_nil))))))))
    (@pss_one _ _ _ (ps_ret (@pe_tup _ _ _ _ _ (pa_cons pe_bl (pa_cons pe_bl pa_nil)))))), ?_⟩
  try dsimp only [cxK]
  refine ⟨?_, ?_⟩
  · rcases hv with ⟨way, v, l, lr, xs, c, rfl, w2', hS, hl, c6, bd⟩ | ⟨u, l, lr, ps, rp, f, c, n, M, ms, v, rest, rfl, hL, rl, mv, mok, m2, BD, c6, M3, n2, bad⟩
    · rcases (show way = 0 ∨ way = 1 by omega) with rfl | rfl
      · have eb : ((Builtin.Int.intBits ((xs.length : Nat) : Int) : Nat) : Int) - 1 = (c : Int) := by rw [hl, bits_pow c6]; omega
        exact ⟨_, rfl, rfl, _, rfl, eqI (fun _ => ⟨_, rfl, _, rfl, l, xs, rfl, .inl hS, rfl, _, rfl, rfl, _, _, rfl, rfl, rfl, v, c, (by show [v, V.int (((Builtin.Int.intBits ((xs.length : Nat) : Int) : Nat) : Int) - 1)] = _; rw [eb]), bd, fun H' S => ⟨rfl, S⟩⟩) (fun z => absurd rfl z)⟩
      · exact ⟨_, rfl, rfl, _, rfl, eqI (fun z => absurd z (by decide)) (fun _ => ⟨_, rfl, rfl, _, rfl, eqI (fun _ => ⟨_, rfl, _, rfl, rfl, l, v, xs, c, rfl, hS, hl, c6, bd, fun H' S => ⟨rfl, S⟩⟩) (fun z => absurd rfl z)⟩)⟩
    · exact ⟨_, rfl, rfl, _, rfl, eqI (fun z => absurd z (by decide)) (fun _ => ⟨_, rfl, rfl, _, rfl, eqI (fun z => absurd z (by decide)) (fun _ => ⟨_, rfl, _, rfl, rfl, l, lr, ps, rp, f, c, n, M, ms, v, rest, rfl, hL, rl, mv, mok, m2, BD, c6, M3, n2, bad, fun H' S => ⟨rfl, S⟩⟩)⟩)⟩
  subst hvs
  rintro ea cls H2 ⟨rfl, S2⟩ hea
  have T1 := same_new hea (ExcO ea (.ref C))
  refine ⟨_, rfl, (show 6 ≤ sizeLine by decide), fun t1 f1 => ⟨ea, C, t1, [x.a_NeverSo, x.a_NoAmount, x.a_NoBoard, x.a_NoMark, x.a_NoShare, x.a_NoTable], false, rfl, same_new f1 _ _ _ upd_same, x.kC, SqT.of upd_same, x.k1, ?_⟩⟩
  refine ⟨_, rfl, _, rfl, iteF ⟨_, rfl, (show 3 ≤ sizeLine by decide), fun t2' f2 => ⟨ea, C, t2', [x.a_NoText, x.a_NotBorne, x.a_Unguarded], false, rfl, same_new f2 _ _ _ (same_new f1 _ _ _ upd_same), x.kC, SqT.of upd_same, x.k2, _, rfl, iteF ?_⟩⟩⟩
  have ee := same_new f2 (.tup ([x.a_NoText, x.a_NotBorne, x.a_Unguarded].map V.ref)) _ _ (same_new f1 (.tup ([x.a_NeverSo, x.a_NoAmount, x.a_NoBoard, x.a_NoMark, x.a_NoShare, x.a_NoTable].map V.ref)) _ _ (upd_same (H := H2) (a := ea) (o := ExcO ea (.ref C))))
  refine ⟨_, rfl, ea, C, _, _, true, rfl, ee, x.kC, rfl, x.ve, _, rfl, iteF ?_⟩
  exact ⟨_, rfl, ea, C, _, _, bM, rfl, ee, x.kC, rfl, x.kM, _, rfl, ea, C, _, _, bC, rfl, ee, x.kC, rfl, x.kK, s2l, fun t ht => kq t _ ((((S2.trans T1).trans (same_new f1 _)).trans (same_new f2 _)).trans (same_new ht _)) upd_same⟩
theorem ok_refusedG (F : FunAt K "_law_refused" (top 51) .none) (X : K.In h) (G : h.Ns mainGlobals mg) (B : Bs mg) (x : Exs K mg C D bm bm' bM bC) (c_check : Cal P w K mg base k "check_move" ["move", "cells"] spCheck) (c_turned : Cal P w K mg base k "turned" ["board", "move"] (spTurnedK K)) (c_run : Cal P w K mg base k "run" ["board", "row"] (spRunK K)) : Cal P w K mg base (k + 1) "_law_refused" ["_law_way", "_law_thing", "_law_board", "_law_row"] (spRefG K) := by
  have nd := sc_refused.nd
  refine F.cal X G sc_refused (bnd4 fun _ _ _ _ _ _ _ _ _ _ => rfl) (fun vs H Q E h => ?_) (fun fa cdv A outer s H vs Q E hr h => ?_)
  · obtain ⟨way, v, l, lr, rfl, _⟩ := h; rfl
  obtain ⟨way, v, l, lr, rfl, hv, kq⟩ := h
  refine ⟨_, (@pss_cons _ _ _ _ _ (ps_try (E := fun _ _ _ => False) (i := 4) ⟨rfl, rfl⟩ nd rfl rfl rfl x.mD x.xC x.xD x.sub (fun _ _ z => z.elim)
      (fun pins σ => @pss_one _ _ _ (ps_if (pt_cmpR op_eq (pv 0) pe_int (nomark _)) (@pss_one _ _ _ (ps_expr (pe_calT (σ0 := σ) c_check.x hr rfl (pa_cons (pv 1) (pa_cons (pe_op op_sub (pe_bm0K (K := K) PySem.F.plainAttrs_int PySem.F.slot_int_bit_length PySem.F.type_int_bit_length mt_bitlen (pe_callB (call_len_seqK (K := K) (by rfl)) rfl B.len PySem.boot_len (pa_cons (pv 2) pa_nil))) pe_int) pa_nil))))) (@pss_one _ _ _ (ps_if (pt_cmpR op_eq (pv 0) pe_int (nomark _)) (@pss_one _ _ _ (ps_expr (pe_calT (σ0 := σ) c_turned.x hr rfl (pa_cons (pv 2) (pa_cons (pv 1) pa_nil))))) (@pss_one _ _ _ (ps_expr (pe_calT (σ0 := σ) c_run.x hr rfl (pa_cons (pv 2) (pa_cons (pv 3) pa_nil)))))))))
      (fun a => @pss_cons _ _ _ _ _ (@ps_set _ _ 5 _ _ _ _ nd rfl (Or.inl rfl) (pe_callB call_isinstETH rfl B.isinstance boot_isinstance (pa_cons (pv 4) (pa_cons (@pe_tup _ _ _ _ _ (pa_cons (pe_own rfl (x.mo_NeverSo)) (pa_cons (pe_own rfl (x.mo_NoAmount)) (pa_cons (pe_own rfl (x.mo_NoBoard)) (pa_cons (pe_own rfl (x.mo_NoMark)) (pa_cons (pe_own rfl (x.mo_NoShare)) (pa_cons (pe_own rfl (x.mo_NoTable)) pa_nil))))))) pa_nil))) rfl (.inl rfl))
        (@pss_cons _ _ _ _ _ (ps_if (PW.pt (pw_or (pt_val (pv 5)) (pw_or (pt_val (pe_callB call_isinstETH rfl B.isinstance boot_isinstance (pa_cons (pv 4) (pa_cons (@pe_tup _ _ _ _ _ (pa_cons (pe_own rfl (x.mo_NoText)) (pa_cons (pe_own rfl (x.mo_NotBorne)) (pa_cons (pe_own rfl (x.mo_Unguarded)) pa_nil)))) pa_nil)))) (pw_or1 (pt_not (pt_val (pe_callB call_isinstEH rfl B.isinstance boot_isinstance (pa_cons (pv 4) (pa_cons (pe_bltn (v := .ty "ValueError") rfl x.mV boot_VE rfl) pa_nil))))))))) (@pss_one _ _ _ (ps_ret pe_non)) pss_nil)
        (@pss_one _ _ _ (ps_ret (@pe_tup _ _ _ _ _ (pa_cons (pe_callB call_isinstEH rfl B.isinstance boot_isinstance (pa_cons (pv 4) (pa_cons (pe_own rfl (x.mo_NoMove)) pa_nil))) (pa_cons (pe_callB call_isinstEH rfl B.isinstance boot_isinstance (pa_cons (pv 4) (pa_cons (pe_own rfl (x.mo_NoCell)) pa_nil))) pa_nil))))))))
    (@pss_one _ _ _ (ps_ret (@pe_tup _ _ _ _ _ (pa_cons pe_bl (pa_cons pe_bl pa_nil)))))), ?_⟩
  try dsimp only [cxK]
  refine ⟨?_, fun a cls H' z => z.elim⟩
  rcases hv with ⟨rfl, p, nm, ns, xs, c, rfl, hp, FI, hS, hl, c6⟩ | ⟨rfl, p, ps, f, c, n, M, m, rfl, hp, mk, BD, c6, n2, M3⟩ | ⟨rfl, ps, rp, f, c, n, M, ms, RW, BD, c6, M3, n2⟩
  · have eb : ((Builtin.Int.intBits ((xs.length : Nat) : Int) : Nat) : Int) - 1 = (c : Int) := by rw [hl, bits_pow c6]; omega
    exact ⟨_, rfl, rfl, _, rfl, eqI (fun _ => ⟨_, rfl, _, rfl, l, xs, rfl, .inl hS, rfl, _, rfl, rfl, _, _, rfl, rfl, rfl, p, nm, ns, c, (by show [V.ref p, V.int (((Builtin.Int.intBits ((xs.length : Nat) : Int) : Nat) : Int) - 1)] = _; rw [eb]), hp, FI, fun H1 S1 => ⟨s2l, fun t ht => kq t _ (S1.trans (same_new ht _)) upd_same⟩⟩) (fun z => absurd rfl z)⟩
  · exact ⟨_, rfl, rfl, _, rfl, eqI (fun z => absurd z (by decide)) (fun _ => ⟨_, rfl, rfl, _, rfl, eqI (fun _ => ⟨_, rfl, _, rfl, rfl, l, p, ps, f, c, n, M, m, rfl, hp, mk, BD, c6, n2, M3, fun r H2 rs z hr S2 B2 st => ⟨s2l, fun t ht => kq t _ (S2.trans (same_new ht _)) upd_same⟩⟩) (fun z => absurd rfl z)⟩)⟩
  · exact ⟨_, rfl, rfl, _, rfl, eqI (fun z => absurd z (by decide)) (fun _ => ⟨_, rfl, rfl, _, rfl, eqI (fun z => absurd z (by decide)) (fun _ => ⟨_, rfl, _, rfl, rfl, l, lr, ps, rp, f, c, n, M, ms, rfl, RW, BD, c6, M3, n2, fun r H2 qs g hr S2 B2 st => ⟨s2l, fun t ht => kq t _ (S2.trans (same_new ht _)) upd_same⟩⟩)⟩)⟩
end
end K36

set_option maxHeartbeats 4000000
namespace K36
open PySem PySem.Spec PyProof.Rows L2 Am Pc Ba
theorem bits_all : ((List.range 7).all fun c => (List.range (2 ^ c)).all fun x => decide (Builtin.Int.intBits ((x : Nat) : Int) ≤ c)) = true := by decide +kernel
theorem bits_le {c x : Nat} (h : c ≤ 6) (hx : x < 2 ^ c) : Builtin.Int.intBits ((x : Nat) : Int) ≤ c := of_decide_eq_true (get1 (get1 bits_all (by omega : c < 7)) hx)
def spWord : Sp := fun vs H Q _ => ∃ x c : Nat, vs = [.int x, .int c] ∧ c ≤ 6 ∧ x < 2 ^ c ∧ Q (.bl true) H
def st (x w : Nat) : A5 := if w = x then ((1, 0, 0, 0), 0) else ((0, 0, 0, 0), 0)
theorem st_ok (x w : Nat) : Ok5 100 40 (st x w) := by
  unfold st
  split
  · exact ⟨⟨s_1, s_0, s_0, s_0⟩, ⟨Int.le_refl 0, .inl rfl⟩, forty⟩
  · exact ⟨⟨s_0, s_0, s_0, s_0⟩, ⟨Int.le_refl 0, .inl rfl⟩, forty⟩
def spStart (K : PySem.W.Frag) : Sp := fun vs H Q _ => ∃ c x : Nat, vs = [.int c, .int x] ∧ 1 ≤ c ∧ c ≤ 6 ∧ x < 2 ^ c ∧ ∀ (r : Addr) (H' : Hp) (qs : List Addr), H r = none → Same H H' → Bd5 K H' r qs (st x) c 100 40 → Q (.ref r) H'
section
variable {P : Program} {w : World} {K : PySem.W.Frag} {mg : Str → Option Value} {base : Heap} {k : Nat} {h : Heap}
theorem sc_isword : FnScope ["thing", "cells"] ["thing", "cells"] (defScope (top 23)) := ⟨rfl, rfl, rfl, by decide +kernel, rfl, by decide +kernel, by decide +kernel⟩
theorem ok_isword (F : FunAt K "is_word" (top 23) .none) (X : K.In h) (G : h.Ns mainGlobals mg) (c_is_whole : Cal P w K mg base k "is_whole" ["thing"] spWhole) : Cal P w K mg base (k + 1) "is_word" ["thing", "cells"] spWord := by
  have nd := sc_isword.nd
  refine F.cal X G sc_isword (bnd2 fun _ _ _ _ _ _ _ _ => rfl) (fun vs H Q E h => ?_) (fun f cdv A outer s H vs Q E hr h => ?_)
  · obtain ⟨x, N, rfl, _⟩ := h; rfl
  obtain ⟨x, N, rfl, c6, lt, q⟩ := h
  refine ⟨_, (@pss_cons _ _ _ _ _ (ps_if (pt_not (PW.pt (pw_and (pt_val (pe_cal c_is_whole hr rfl (pa_cons (pv 0) pa_nil))) (pw_and1 (pt_val (pe_cal c_is_whole hr rfl (pa_cons (pv 1) pa_nil)))))))
      (@pss_one _ _ _ (ps_ret pe_bl))
      pss_nil)
    (@pss_one _ _ _ (ps_ret (pe_and (pe_cmpR op_ge (pv 0) pe_int (nomark _)) (pe_one (pe_cmpR op_le (pe_bm0 PySem.F.plainAttrs_int PySem.F.slot_int_bit_length PySem.F.type_int_bit_length mt_bitlen (pv 0)) (pv 1) (nomark _))))))), ?_⟩
  try dsimp only [cxK]
  refine ⟨_, rfl, _, rfl, _, rfl, iteT ⟨_, rfl, _, rfl, _, rfl, iteF ?_⟩⟩
  refine ⟨_, rfl, _, _, rfl, rfl, _, rfl, decI (fun _ => ?_) (fun z => absurd (show (x : Int) ≥ 0 by omega) z)⟩
  refine ⟨_, rfl, rfl, _, rfl, rfl, _, rfl, _, _, rfl, rfl, ?_⟩
  have b := bits_le c6 lt
  show Q (.bl (decide (((Builtin.Int.intBits ((x : Nat) : Int) : Nat) : Int) ≤ (N : Int)))) H
  rw [decide_eq_true (by omega)]
  exact q
def spBegin : Sp := fun vs H Q _ => ∃ c x : Nat, vs = [.int c, .int x] ∧ 1 ≤ c ∧ c ≤ 6 ∧ x < 2 ^ c ∧ Q .non H
theorem sc_begin : FnScope ["cells", "word"] ["cells", "word"] (defScope (top 29)) := ⟨rfl, rfl, rfl, by decide +kernel, rfl, by decide +kernel, by decide +kernel⟩
theorem ok_begin {tM : Tok} (gM : mg "MOST_CELLS" = some (.int 6 tM)) (F : FunAt K "check_beginning" (top 29) .none) (X : K.In h) (G : h.Ns mainGlobals mg) (c_is_whole : Cal P w K mg base k "is_whole" ["thing"] spWhole) (c_is_word : Cal P w K mg base k "is_word" ["thing", "cells"] spWord) : Cal P w K mg base (k + 1) "check_beginning" ["cells", "word"] spBegin := by
  have nd := sc_begin.nd
  refine F.cal X G sc_begin (bnd2 fun _ _ _ _ _ _ _ _ => rfl) (fun vs H Q E h => ?_) (fun f cdv A outer s H vs Q E hr h => ?_)
  · obtain ⟨c, x, rfl, _⟩ := h; rfl
  obtain ⟨c, x, rfl, c1, c6, xc, kq⟩ := h
  refine ⟨_, (@pss_cons _ _ _ _ _ (ps_if (PW.pt (pw_or (pt_not (pt_val (pe_cal c_is_whole hr rfl (pa_cons (pv 0) pa_nil)))) (pw_or (pt_cmpR op_lt (pv 0) pe_int (nomark _)) (pw_or1 (pt_cmpR op_gt (pv 0) (pe_glob (v := .int 6) rfl gM ⟨tM, rfl⟩) (nomark _))))))
      (@pss_one _ _ _ ps_never)
      pss_nil)
    (@pss_one _ _ _ (ps_if (pt_not (pt_val (pe_cal c_is_word hr rfl (pa_cons (pv 1) (pa_cons (pv 0) pa_nil)))))
      (@pss_one _ _ _ ps_never)
      pss_nil))), ?_⟩
  try dsimp only [cxK]
  refine ⟨_, rfl, _, rfl, _, rfl, iteF ⟨_, rfl, _, _, rfl, rfl, _, rfl, decI (fun z => absurd z (by omega)) (fun _ => ⟨_, rfl, _, _, rfl, rfl, _, rfl, decI (fun z => absurd z (by omega)) (fun _ => ?_)⟩)⟩⟩
  exact ⟨_, rfl, _, rfl, x, c, rfl, c6, xc, _, rfl, iteF kq⟩
theorem sc_start : FnScope ["cells", "word"] ["cells", "word"] (defScope (top 28)) := ⟨rfl, rfl, rfl, by decide +kernel, rfl, by decide +kernel, by decide +kernel⟩end
end K36

set_option maxHeartbeats 4000000
/-! != of boards whose amounts may be kept; of pairs of a row and an empty list -/
namespace L2
open PySem PySem.Spec PyProof.Rows
section
variable {X : Cx}
end
end L2

set_option maxHeartbeats 4000000
/-! == of two lists of the same things -/
namespace L2
open PySem PySem.Spec PyProof.Rows
inductive FlV : V → PyData → Prop where
  | non : FlV .non .none
  | bl (b : Bool) : FlV (.bl b) (.bool b)
  | int (i : Int) : FlV (.int i) (.int i)
  | str (x : Str) (ok : PyData.canLay0 (.str x) = true) : FlV (.str x) (.str x)
inductive RdV (H : Hp) : V → PyData → Prop where
  | flat {v : V} {d : PyData} (f : FlV v d) : RdV H v d
  | tup {p : Addr} {xs : List V} {ds : List PyData} (e : H p = some (.tup xs)) (all : Paired FlV xs ds) : RdV H (.ref p) (.tuple ds)
  | lst {p : Addr} {xs : List V} {ds : List PyData} (e : H p = some (.lst xs)) (all : Paired FlV xs ds) : RdV H (.ref p) (.list ds)
theorem reads_fl {h : Heap} {v : V} {d : PyData} {u : Value} (f : FlV v d) (r : RelV v u) : Reads h u d [] := by
  cases f with
  | non => cases r; exact .none
  | bl b => cases r; exact .bool b
  | int i => obtain ⟨t, rfl⟩ := r; exact .int i t
  | str x => obtain ⟨t, rfl⟩ := r; exact .str x t
theorem reads_fls {h : Heap} : ∀ {xs : List V} {ds : List PyData} {us : List Value}, Paired FlV xs ds → Vals xs us → ReadsAll h us ds []
  | [], [], us, .nil, r => by cases r; exact .nil
  | _ :: _, _ :: _, us, .cons f t, r => by
    cases r with
    | cons ru rr => exact .cons (as := []) (bs := []) (reads_fl f ru) (reads_fls t rr)
def fine (d : PyData) : Prop := PyData.canLay0 d = true ∧ PyData.depth d ≤ 1 ∧ SeqAt.noMix d d = true ∧ PySem.Spec.same d d = true
theorem fl_fine {v : V} {d : PyData} (f : FlV v d) : PyData.canLay0 d = true ∧ PyData.depth d = 0 ∧ SeqAt.noMix d d = true ∧ PySem.Spec.same d d = true := by
  cases f with
  | non => simp [PyData.canLay0, PyData.depth, SeqAt.noMix, PySem.Spec.same]
  | bl b => simp [PyData.canLay0, PyData.depth, SeqAt.noMix, PySem.Spec.same]
  | int i => simp [PyData.canLay0, PyData.depth, SeqAt.noMix, PySem.Spec.same]
  | str x ok => exact ⟨ok, by simp [PyData.depth], by simp [SeqAt.noMix], by simp [PySem.Spec.same]⟩
theorem fls_fine : ∀ {xs : List V} {ds : List PyData}, Paired FlV xs ds → PyData.canLayAll0 ds = true ∧ PyData.depthAll ds = 0 ∧ SeqAt.noMixAll ds ds = true ∧ PySem.Spec.sameAll ds ds = true
  | [], [], .nil => by simp [PyData.canLayAll0, PyData.depthAll, SeqAt.noMixAll, PySem.Spec.sameAll]
  | _ :: _, d :: ds, .cons f t => by
    obtain ⟨a1, a2, a3, a4⟩ := fl_fine f
    obtain ⟨b1, b2, b3, b4⟩ := fls_fine t
    simp [PyData.canLayAll0, PyData.depthAll, SeqAt.noMixAll, PySem.Spec.sameAll, a1, a2, a3, a4, b1, b2, b3, b4]
theorem rd_fine {H : Hp} {v : V} {d : PyData} (r : RdV H v d) : fine d := by
  cases r with
  | flat f => obtain ⟨a1, a2, a3, a4⟩ := fl_fine f; exact ⟨a1, by omega, a3, a4⟩
  | tup e all => obtain ⟨b1, b2, b3, b4⟩ := fls_fine all; exact ⟨by simpa [PyData.canLay0] using b1, by simp [PyData.depth, b2], by simpa [SeqAt.noMix] using b3, by simpa [PySem.Spec.same] using b4⟩
  | lst e all => obtain ⟨b1, b2, b3, b4⟩ := fls_fine all; exact ⟨by simpa [PyData.canLay0] using b1, by simp [PyData.depth, b2], by simpa [SeqAt.noMix] using b3, by simpa [PySem.Spec.same] using b4⟩
section
variable {X : Cx} {pins : List (Addr × Obj)} {σ : St} {H : Hp} {s : Shared}
theorem reads_rd (I : Inv X pins σ H s) {v : V} {d : PyData} {u : Value} (f : RdV H v d) (r : RelV v u) : ∃ as, Reads s.heap u d as := by
  cases f with
  | flat f => exact ⟨_, reads_fl f r⟩
  | @tup p xs ds e all =>
    cases r
    obtain ⟨its, rv, ht, _⟩ := I.tuple (SqT.of e)
    obtain ⟨o, ho, hc, n, hd⟩ := ht
    exact ⟨_, Reads.tuple ho hc hd (by simpa using reads_fls all rv)⟩
  | @lst p xs ds e all =>
    cases r
    obtain ⟨its, rv, pl, _⟩ := I.list (SqL.of e)
    obtain ⟨o, ho, hc, n, hd⟩ := pl.isList
    exact ⟨_, Reads.list ho hc hd (by simpa using reads_fls all rv)⟩
end
end L2

set_option maxHeartbeats 4000000
/-! == and != of the same things, five names at once in a block -/
namespace L2
open PySem PySem.Spec PyProof.Rows
def rEqRd (neg : Bool) : R2 := fun x y H Q => ∃ d : PyData, RdV H x d ∧ RdV H y d ∧ Q (.bl (!neg)) H
theorem rd_shaped {H : Hp} {v : V} {d : PyData} (r : RdV H v d) : SeqAt.shaped d = true := by
  obtain ⟨a1, a2, _, _⟩ := rd_fine r
  show (PyData.canLay0 _ && decide _) = true
  rw [Bool.and_eq_true]
  exact ⟨a1, decide_eq_true (by omega)⟩
theorem op_eqRd {X : Cx} (hu : X.A.units + 64 < cLine) : OpR X (compareOp .Eq) (rEqRd false) := by
  intro pins s σ H x y v u Q I rx ry h
  obtain ⟨d, h1, h2, q⟩ := h
  obtain ⟨as, ra⟩ := reads_rd I h1 rx
  obtain ⟨bs, rb⟩ := reads_rd I h2 ry
  obtain ⟨_, _, a3, a4⟩ := rd_fine h1
  refine eq_dataH_same ra rb (rd_shaped h1) (rd_shaped h1) hu a3 ⟨.bl true, H, I, ?_, q⟩
  show _ = _
  simp only [a4]
theorem op_neRd {X : Cx} (hu : X.A.units + 64 < cLine) : OpR X (compareOp .NotEq) (rEqRd true) := by
  intro pins s σ H x y v u Q I rx ry h
  obtain ⟨d, h1, h2, q⟩ := h
  obtain ⟨as, ra⟩ := reads_rd I h1 rx
  obtain ⟨bs, rb⟩ := reads_rd I h2 ry
  obtain ⟨_, _, a3, a4⟩ := rd_fine h1
  refine ne_dataH_same ra rb (rd_shaped h1) (rd_shaped h1) hu a3 ⟨.bl false, H, I, ?_, q⟩
  show _ = _
  simp only [a4]
  rfl
section
variable {X : Cx} {scope : Scope} {Nc : List Str} {ex : List Addr} {pins : List (Addr × Obj)} {s : Shared} {H : Hp}
end
end L2

set_option maxHeartbeats 4000000
namespace K36
open PySem PySem.Spec PyProof.Rows L2 Am Pc Ba
open Pt hiding kit_tt
theorem num_lay {nm : Str} {v : V} (z : L2.numAt NB nm = some v) : PyData.canLay0 (.str nm) = true := by
  unfold L2.numAt valV at z
  obtain ⟨kv, h1, rfl⟩ := Option.map_eq_some_iff.mp z
  have e := List.find?_some h1
  have m := List.mem_of_find?_eq_some h1
  simp [txt] at m e
  rcases m with rfl | rfl | rfl | rfl | rfl | rfl | rfl <;> (simp at e; subst e; simp only [PyData.canLay0]; decide +kernel)
theorem fl_ints : ∀ ns : List Int, Paired FlV (ns.map V.int) (ns.map PyData.int)
  | [] => .nil
  | n :: ns => .cons (.int n) (fl_ints ns)
def spTold : Sp := fun vs H Q _ => ∃ (p : Addr) (nm : Str) (ns : List Int), vs = [.ref p, .ref p] ∧ H p = some (MvT nm ns) ∧ Form nm ns ∧ ∀ H', Same H H' → Q (.bl true) H'
section
variable {P : Program} {w : World} {K : PySem.W.Frag} {mg : Str → Option Value} {base : Heap} {k : Nat} {h : Heap}
theorem sc_told : FnScope ["_law_found", "_law_thing"] ["_law_found", "_law_thing"] (defScope (top 52)) := ⟨rfl, rfl, rfl, by decide +kernel, rfl, by decide +kernel, by decide +kernel⟩
theorem ok_told (F : FunAt K "_law_told_move" (top 52) .none) (X : K.In h) (G : h.Ns mainGlobals mg) (B : Bs mg) (c__law_whole : Cal P w K mg base k "_law_whole" ["_law_found"] (spIsWhole K)) : Cal P w K mg base (k + 1) "_law_told_move" ["_law_found", "_law_thing"] spTold := by
  have nd := sc_told.nd
  refine F.cal X G sc_told (bnd2 fun _ _ _ _ _ _ _ _ => rfl) (fun vs H Q E h => ?_) (fun f cdv A outer s H vs Q E hr h => ?_)
  · obtain ⟨p, nm, ns, rfl, _⟩ := h; rfl
  obtain ⟨p, nm, ns, rfl, e, FO, kq⟩ := h
  have l3 := FO.len
  refine ⟨_, (@pss_cons _ _ _ _ _ (ps_if (PW.pt (pw_or (pt_not (pt_val (pe_callB call_isinst rfl B.isinstance boot_isinstance (pa_cons (pv 0) (pa_cons (pe_bltn (v := .ty "tuple") rfl B.tuple boot_tuple rfl) pa_nil))))) (pw_or (pt_cmpR op_ne (pe_callB call_len_seq rfl B.len PySem.boot_len (pa_cons (pv 0) pa_nil)) (pe_callB call_len_seq rfl B.len PySem.boot_len (pa_cons (pv 1) pa_nil)) (nomark _)) (pw_or1 (pt_not (pt_val (pe_callB call_isinst rfl B.isinstance boot_isinstance (pa_cons (pe_ix ix_tup (pv 0) pe_int (fun _ _ => rfl)) (pa_cons (pe_bltn (v := .ty "str") rfl B.str boot_str rfl) pa_nil)))))))))
      (@pss_one _ _ _ (ps_ret pe_bl))
      pss_nil)
    (@pss_one _ _ _ (ps_ret (pe_and (pe_callB (call_allL rfl) rfl B.all boot_all (pa_cons (pe_lc rfl (LcOk.of (Nc := ["_law_number"]) (mp := [none]) (by kernel_rfl)) (pi_tup (pe_slice sl_tupA (pv 0) (po_some pe_int) po_none)) (fun _ _ _ _ => (pg_name (i := 0) (show (["_law_number"] : List Str).Nodup by decide +kernel) rfl (Or.inl rfl))) (fun _ _ _ _ => (pe_cal c__law_whole hr rfl (pa_cons (pv 0) pa_nil)))) pa_nil)) (pe_one (pe_cmpR (op_eqRd hr.units) (pv 0) (pv 1) (nomark _))))))), ?_⟩
  try dsimp only [cxK]
  refine ⟨_, rfl, _, _, _, true, rfl, TyOf.tup e, kit_tt K, _, rfl, iteF ⟨_, rfl, p, _, rfl, .inr (SqT.of e), _, rfl, p, _, rfl, .inr (SqT.of e), rfl, _, rfl, neI (fun z => absurd rfl z) (fun _ => ?_)⟩⟩
  refine ⟨_, rfl, p, _, _, .str nm, rfl, rfl, SqT.of e, at0, _, _, _, true, rfl, TyOf.str nm, kit_ss K, _, rfl, iteF ?_⟩
  refine ⟨_, rfl, _, rfl, p, _, rfl, SqT.of e, .inr ⟨fun c => absurd c.1 (by rw [one_ix]; decide), fun r hr => ?_⟩⟩
  rw [cut_one]
  have s2 := same_new hr (.tup (ns.map V.int))
  refine ⟨r, rfl, ⟨_, SqT.of upd_same⟩, fun acc hacc => ?_⟩
  refine lc_tupM (K := K) (ns := ns) (fun _ => .bl true) (SqT.of upd_same) (t64 (by omega)) hacc (fun n H2 N hn S2 kN => ⟨_, rfl, .int n, rfl, Part.int n, kN⟩) (fun H3 S3 a3 => ?_)
  have e3 : ns.map (fun _ => V.bl true) = (ns.map fun _ => true).map V.bl := by rw [List.map_map]; rfl
  rw [e3] at a3
  refine ⟨acc, _, rfl, SqL.of a3, _, rfl, ?_⟩
  rw [show (ns.map fun _ => true).all id = true by simp]
  have S := s2.trans S3
  have rd : RdV H3 (.ref p) (.tuple (.str nm :: ns.map PyData.int)) := .tup (S _ _ e) (.cons (.str nm (num_lay FO.num)) (fl_ints ns))
  exact iteT ⟨_, rfl, _, rfl, _, rd, rd, kq _ S⟩
end
end K36

set_option maxHeartbeats 4000000
/-! == of two lists that hold the very same things, whatever they are -/
namespace L2
open PySem PySem.Spec PyProof.Rows
def ownV (v : V) : Prop := flatV v = true ∨ ∃ p, v = .ref p
theorem eqAt_own {A : Around} {s : Shared} {v : V} {u w : Value} (o : ownV v) (r1 : RelV v u) (r2 : RelV v w) : SeqAt.EqAt A s u w true := by
  rcases o with o | ⟨p, rfl⟩
  · cases v with
    | int i =>
      obtain ⟨t, rfl⟩ := r1
      obtain ⟨t', rfl⟩ := r2
      have := SeqAt.EqAt.int_int (A := A) (s := s) i t i t'
      simpa using this
    | str x =>
      obtain ⟨t, rfl⟩ := r1
      obtain ⟨t', rfl⟩ := r2
      have := SeqAt.EqAt.str_str (A := A) (s := s) x t x t'
      simpa using this
    | bl b => cases r1; cases r2; exact SeqAt.EqAt.same _
    | non => cases r1; cases r2; exact SeqAt.EqAt.same _
    | _ => cases o
  · cases r1; cases r2; exact SeqAt.EqAt.same _
def rEqOwn (K : PySem.W.Frag) : R2 := fun x y H Q => ∃ (a b : Addr) (xs : List V), x = .ref a ∧ y = .ref b ∧ SqL K H a xs ∧ SqL K H b xs ∧ (∀ v ∈ xs, ownV v) ∧ Q (.bl true) H
theorem op_eqOwn {X : Cx} (hu : X.A.units + 64 < cLine) : OpR X (compareOp .Eq) (rEqOwn X.K) := by
  intro pins s σ H x y v u Q I rx ry h
  obtain ⟨a, b, xs, rfl, rfl, h1, h2, ow, q⟩ := h
  cases rx; cases ry
  obtain ⟨its, rv, pl, _⟩ := I.list h1
  obtain ⟨its2, rv2, pl2, _⟩ := I.list h2
  have l1 := rv.length
  have l2 := rv2.length
  have rc := SeqAt.RcAt.lists (A := X.A) (e := fun _ => true) pl.isList pl2.isList (by rw [List.size_toArray, List.size_toArray, ← l1, ← l2]) (by omega) fun j j1 j2 => by
    have jx : j < xs.length := by rw [List.size_toArray] at j1; omega
    obtain ⟨u1, e1, r1⟩ := rv.get (List.getElem?_eq_getElem jx)
    obtain ⟨u2, e2, r2⟩ := rv2.get (List.getElem?_eq_getElem jx)
    have q1 : its.toArray[j] = u1 := by
      have := (List.getElem?_eq_some_iff.mp e1).2
      simpa using this
    have q2 : its2.toArray[j] = u2 := by
      have := (List.getElem?_eq_some_iff.mp e2).2
      simpa using this
    rw [q1, q2]
    exact eqAt_own (ow _ (List.getElem_mem jx)) r1 r2
  have al : ((List.range its.toArray.size).all fun _ => true) = true := by simp
  rw [al] at rc
  exact rc X.prog X.w _ _ ⟨.bl true, H, I, rfl, q⟩
end L2

set_option maxHeartbeats 4000000
namespace K36
open PySem PySem.Spec PyProof.Rows L2 Am Pc Ba
open Pt hiding kit_tt
theorem num_cases (nm : Str) : L2.numAt NB nm = none ∨ (nm = "flip" ∧ L2.numAt NB nm = some (.int 1)) ∨ (nm = "mix" ∧ L2.numAt NB nm = some (.int 1)) ∨ (nm = "turn" ∧ L2.numAt NB nm = some (.int 2)) ∨ (nm = "if" ∧ L2.numAt NB nm = some (.int 2)) ∨ (nm = "pair" ∧ L2.numAt NB nm = some (.int 2)) ∨ (nm = "swap" ∧ L2.numAt NB nm = some (.int 2)) ∨ (nm = "cross" ∧ L2.numAt NB nm = some (.int 3)) := by
  by_cases h1 : nm = "flip"
  · subst h1; exact .inr (.inl ⟨rfl, by decide⟩)
  by_cases h2 : nm = "mix"
  · subst h2; exact .inr (.inr (.inl ⟨rfl, by decide⟩))
  by_cases h3 : nm = "turn"
  · subst h3; exact .inr (.inr (.inr (.inl ⟨rfl, by decide⟩)))
  by_cases h4 : nm = "if"
  · subst h4; exact .inr (.inr (.inr (.inr (.inl ⟨rfl, by decide⟩))))
  by_cases h5 : nm = "pair"
  · subst h5; exact .inr (.inr (.inr (.inr (.inr (.inl ⟨rfl, by decide⟩)))))
  by_cases h6 : nm = "swap"
  · subst h6; exact .inr (.inr (.inr (.inr (.inr (.inr (.inl ⟨rfl, by decide⟩))))))
  by_cases h7 : nm = "cross"
  · subst h7; exact .inr (.inr (.inr (.inr (.inr (.inr (.inr ⟨rfl, by decide⟩))))))
  · exact .inl (by simp [L2.numAt, txt, valV, Ne.symm h1, Ne.symm h2, Ne.symm h3, Ne.symm h4, Ne.symm h5, Ne.symm h6, Ne.symm h7])
theorem ints_of : ∀ {xs : List V}, (∀ x ∈ xs, isI x = true) → ∃ ns : List Int, xs = ns.map V.int
  | [], _ => ⟨[], rfl⟩
  | x :: xs, h => by
    obtain ⟨ns, e⟩ := ints_of (xs := xs) fun y hy => h y (List.mem_cons_of_mem _ hy)
    have hx := h x List.mem_cons_self
    cases x with
    | int i => exact ⟨i :: ns, by rw [e]; rfl⟩
    | _ => cases hx
theorem classify {K : PySem.W.Frag} {H : Hp} {c : Nat} {p : Addr} {nm : Str} {xs : List V} (e : H p = some (.tup (.str nm :: xs))) (th : ∀ x ∈ xs, Thg H x) : ∃ d, Verd K H c (.ref p) d := by
  have key : L2.numAt NB nm = none ∨ ∃ n : Nat, L2.numAt NB nm = some (.int n) ∧ n ≤ 3 ∧ (nm = "turn" → n = 2) := by
    rcases num_cases nm with h | ⟨_, h⟩ | ⟨_, h⟩ | ⟨_, h⟩ | ⟨_, h⟩ | ⟨_, h⟩ | ⟨_, h⟩ | ⟨e7, h⟩
    · exact .inl h
    · exact .inr ⟨1, h, by decide, fun z => by subst z; rw [show L2.numAt NB "turn" = some (.int 2) by decide] at h; cases h⟩
    · exact .inr ⟨1, h, by decide, fun z => by subst z; rw [show L2.numAt NB "turn" = some (.int 2) by decide] at h; cases h⟩
    · exact .inr ⟨2, h, by decide, fun _ => rfl⟩
    · exact .inr ⟨2, h, by decide, fun _ => rfl⟩
    · exact .inr ⟨2, h, by decide, fun _ => rfl⟩
    · exact .inr ⟨2, h, by decide, fun _ => rfl⟩
    · exact .inr ⟨3, h, by decide, fun z => by subst z; rw [show L2.numAt NB "turn" = some (.int 2) by decide] at h; cases h⟩
  rcases key with z | ⟨n, z, n3, nt⟩
  · exact ⟨1, .no (.name e z)⟩
  by_cases l : xs.length = n
  · subst l
    by_cases no : ∃ x ∈ xs, isI x = false
    · exact ⟨1, .no (.part e z n3 th no)⟩
    · obtain ⟨ns, rfl⟩ := ints_of (xs := xs) fun x hx => by
        cases hi : isI x with
        | true => rfl
        | false => exact absurd ⟨x, hx, hi⟩ no
      rw [List.length_map] at z n3 nt
      by_cases ht : nm = "turn" ∧ ¬ ∃ a k, ns = [a, k] ∧ 1 ≤ k ∧ k ≤ 7
      · obtain ⟨rfl, nk⟩ := ht
        have l2 := nt rfl
        match ns, l2, e, nk with
        | [a, k], _, e, nk => exact ⟨1, .no (.turn e (by
            apply Classical.byContradiction
            intro q
            exact nk ⟨a, k, rfl, by omega, by omega⟩))⟩
      · have FO : Form nm ns := ⟨z, n3, fun t => Classical.byContradiction fun q => ht ⟨t, q⟩⟩
        by_cases bad : (∃ a ∈ named nm ns, a < 0 ∨ (c : Int) ≤ a) ∨ ¬ (named nm ns).Nodup
        · exact ⟨2, .bad ⟨p, nm, ns, rfl, e, FO, bad⟩⟩
        · refine ⟨0, .fit e ⟨FO, fun a ha => ?_, Classical.byContradiction fun q => bad (.inr q)⟩⟩
          apply Classical.byContradiction
          intro q
          exact bad (.inl ⟨a, ha, by omega⟩)
  · exact ⟨1, .no (.size e z (fun q => l (by omega)))⟩
theorem fits_gm {nm : Str} {ns : List Int} {c : Nat} (F : Fits nm ns c) : ∃ m : Gm, m.Ok c ∧ nm = m.nm ∧ ns = m.ns := by
  have nat : ∀ a : Int, 0 ≤ a → ∃ n : Nat, a = n := fun a h => ⟨a.toNat, by omega⟩
  have z := F.form.num
  rcases num_cases nm with h | ⟨e, h⟩ | ⟨e, h⟩ | ⟨e, h⟩ | ⟨e, h⟩ | ⟨e, h⟩ | ⟨e, h⟩ | ⟨e, h⟩
  · rw [h] at z; cases z
  · have l : ns.length = 1 := by rw [h] at z; have := V.int.inj (Option.some.inj z); omega
    subst e
    match ns, l with
    | [a], _ =>
      have h1 := F.low a (by simp [named])
      obtain ⟨a, rfl⟩ := nat a h1.1
      exact ⟨.mv (.flip a), by show a < c; omega, rfl, rfl⟩
  · have l : ns.length = 1 := by rw [h] at z; have := V.int.inj (Option.some.inj z); omega
    subst e
    match ns, l with
    | [a], _ =>
      have h1 := F.low a (by simp [named])
      obtain ⟨a, rfl⟩ := nat a h1.1
      exact ⟨.mix a, by show a < c; omega, rfl, rfl⟩
  · obtain ⟨a, k, rfl, k1, k7⟩ := F.form.turn e
    subst e
    have h1 := F.low a (by simp [named])
    obtain ⟨a, rfl⟩ := nat a h1.1
    obtain ⟨k, rfl⟩ := nat k (by omega)
    exact ⟨.mv (.turn a k), ⟨by omega, by omega, by omega⟩, rfl, rfl⟩
  · have l : ns.length = 2 := by rw [h] at z; have := V.int.inj (Option.some.inj z); omega
    subst e
    match ns, l with
    | [a, b], _ =>
      have en : named "if" [a, b] = [a, b] := rfl
      have nd := F.nd
      rw [en] at nd
      have h1 := F.low a (by rw [en]; simp)
      have h2 := F.low b (by rw [en]; simp)
      obtain ⟨a, rfl⟩ := nat a h1.1
      obtain ⟨b, rfl⟩ := nat b h2.1
      simp at nd
      exact ⟨.mv (.iff a b), ⟨by omega, by omega, by omega⟩, rfl, rfl⟩
  · have l : ns.length = 2 := by rw [h] at z; have := V.int.inj (Option.some.inj z); omega
    subst e
    match ns, l with
    | [a, b], _ =>
      have en : named "pair" [a, b] = [a, b] := rfl
      have nd := F.nd
      rw [en] at nd
      have h1 := F.low a (by rw [en]; simp)
      have h2 := F.low b (by rw [en]; simp)
      obtain ⟨a, rfl⟩ := nat a h1.1
      obtain ⟨b, rfl⟩ := nat b h2.1
      simp at nd
      exact ⟨.mv (.pair a b), ⟨by omega, by omega, by omega⟩, rfl, rfl⟩
  · have l : ns.length = 2 := by rw [h] at z; have := V.int.inj (Option.some.inj z); omega
    subst e
    match ns, l with
    | [a, b], _ =>
      have en : named "swap" [a, b] = [a, b] := rfl
      have nd := F.nd
      rw [en] at nd
      have h1 := F.low a (by rw [en]; simp)
      have h2 := F.low b (by rw [en]; simp)
      obtain ⟨a, rfl⟩ := nat a h1.1
      obtain ⟨b, rfl⟩ := nat b h2.1
      simp at nd
      exact ⟨.mv (.swap a b), ⟨by omega, by omega, by omega⟩, rfl, rfl⟩
  · have l : ns.length = 3 := by rw [h] at z; have := V.int.inj (Option.some.inj z); omega
    subst e
    match ns, l with
    | [a, b, d], _ =>
      have en : named "cross" [a, b, d] = [a, b, d] := rfl
      have nd := F.nd
      rw [en] at nd
      have h1 := F.low a (by rw [en]; simp)
      have h2 := F.low b (by rw [en]; simp)
      have h3 := F.low d (by rw [en]; simp)
      obtain ⟨a, rfl⟩ := nat a h1.1
      obtain ⟨b, rfl⟩ := nat b h2.1
      obtain ⟨d, rfl⟩ := nat d h3.1
      simp at nd
      exact ⟨.mv (.cross a b d), ⟨by omega, by omega, by omega, by omega, by omega, by omega⟩, rfl, rfl⟩
end K36

set_option maxHeartbeats 4000000
namespace K36
open PySem PySem.Spec PyProof.Rows L2 Am Pc Ba
open Pt hiding kit_tt
theorem z1l : (1 : Nat) ≤ sizeLine := by decide
theorem z6l : (6 : Nat) ≤ sizeLine := by decide
theorem q_2 : (0 : Int) < 2 := by decide
theorem q_4 : (0 : Int) < 4 := by decide
theorem q_6 : (0 : Int) < 6 := by decide
theorem q_10 : (0 : Int) < 10 := by decide
theorem modn (z : Int) {N : Nat} (h : 0 < N) : ∃ i : Nat, i < N ∧ z % (N : Int) = (i : Int) := ⟨(z % N).toNat, by have := Int.emod_lt_of_pos z (show (0 : Int) < N by omega); have := Int.emod_nonneg z (show (N : Int) ≠ 0 by omega); omega, by have := Int.emod_nonneg z (show (N : Int) ≠ 0 by omega); omega⟩
def spNumBy : Sp := fun vs H Q _ => ∃ (z : Int) (c : Nat) (far : Int), vs = [.int z, .int c, .int far] ∧ Sz 140 far ∧ ∀ (v : V) (H' : Hp), Same H H' → Thg H' v → Q v H'
section
variable {P : Program} {w : World} {K : PySem.W.Frag} {mg : Str → Option Value} {base : Heap} {k : Nat} {h : Heap}
theorem sc_numby : FnScope ["_law_cell", "_law_cells", "_law_far", "_law_odd"] ["_law_cell", "_law_cells", "_law_far"] (defScope (top 48)) := ⟨rfl, rfl, rfl, by decide +kernel, rfl, by decide +kernel, by decide +kernel⟩
theorem ok_numby (F : FunAt K "_law_number_by" (top 48) .none) (X : K.In h) (G : h.Ns mainGlobals mg) : Cal P w K mg base (k + 1) "_law_number_by" ["_law_cell", "_law_cells", "_law_far"] spNumBy := by
  have nd := sc_numby.nd
  refine F.cal X G sc_numby (bnd3 fun _ _ _ _ _ _ _ _ _ => rfl) (fun vs H Q E h => ?_) (fun f cdv A outer s H vs Q E hr h => ?_)
  · obtain ⟨z, c, far, rfl, _⟩ := h; rfl
  obtain ⟨z, c, far, rfl, sf, kq⟩ := h
  refine ⟨_, (@pss_cut _ _ _ _ _ (@ps_set _ _ 3 _ _ _ _ nd rfl (Or.inl rfl) (@pe_lst _ _ _ _ (pa_cons pe_bl (pa_cons pe_bl (pa_cons pe_non (pa_cons pe_str (pa_cons (@pe_tup _ _ _ _ _ (pa_cons pe_int pa_nil)) (pa_cons (@pe_lst _ _ _ _ (pa_cons pe_int pa_nil)) pa_nil))))))) rfl (.inl rfl))
    (@pss_cons _ _ _ _ _ (ps_if (pt_cmpR op_eq (pe_op op_mod (pv 0) pe_int) pe_int (nomark _))
      (@pss_one _ _ _ (ps_ret (pe_ix ix_list (pv 3) (pe_op op_mod (pe_op op_fdiv (pv 0) pe_int) pe_int) (fun _ _ => rfl))))
      pss_nil)
    (@pss_cons _ _ _ _ _ (ps_if (pt_cmpR op_eq (pe_op op_mod (pv 0) pe_int) pe_int (nomark _))
      (@pss_one _ _ _ (ps_ret (pe_op op_sub (pe_un un_neg pe_int) (pv 2))))
      pss_nil)
    (@pss_cons _ _ _ _ _ (ps_if (pt_cmpR op_eq (pe_op op_mod (pv 0) pe_int) pe_int (nomark _))
      (@pss_one _ _ _ (ps_ret (pe_op op_add (pv 1) (pe_op op_mulG (pv 2) (pe_op op_mod (pv 2) pe_int)))))
      pss_nil)
    (@pss_one _ _ _ (ps_ret (pe_op op_mod (pe_op op_fdiv (pv 0) pe_int) pe_int))))))), ?_⟩
  try dsimp only [cxK]
  refine ⟨fun σ H' => Same H H' ∧ ∃ lo t l : Addr, H' lo = some (.lst [.bl true, .bl false, .non, .str "1", .ref t, .ref l]) ∧ (∃ xs, H' t = some (.tup xs)) ∧ (∃ xs, H' l = some (.lst xs)) ∧ σ = [some (.int z), some (.int (c : Nat)), some (.int far), some (.ref lo)], ?_, ?_⟩
  · refine ⟨z1l, fun t ht => ⟨z1l, fun l hl => ⟨z6l, fun lo hlo => ?_⟩⟩⟩
    have s1 := same_new ht (.tup [.int 1])
    have s2 := same_new hl (.lst [.int 1])
    have s3 := same_new hlo (.lst [.bl true, .bl false, .non, .str "1", .ref t, .ref l])
    exact ⟨s1.trans (s2.trans s3), lo, t, l, upd_same, ⟨_, (s2.trans s3) _ _ upd_same⟩, ⟨_, s3 _ _ upd_same⟩, rfl⟩
  rintro σ1 H1 ⟨S1, lo, t, l, e0, ⟨xs1, e1⟩, ⟨xs2, e2⟩, rfl⟩
  refine ⟨_, rfl, _, _, rfl, rfl, q_4, rfl, _, rfl, eqI (fun _ => ?_) (fun _ => ?_)⟩
  · obtain ⟨i, i6, ei⟩ := modn (z / 4) (show 0 < 6 by decide)
    have at_ : ∃ v, atI [V.bl true, V.bl false, V.non, V.str "1", V.ref t, V.ref l] (i : Int) = some v ∧ Thg H1 v := by
      rcases (show i = 0 ∨ i = 1 ∨ i = 2 ∨ i = 3 ∨ i = 4 ∨ i = 5 by omega) with rfl | rfl | rfl | rfl | rfl | rfl
      · exact ⟨_, rfl, .inl rfl⟩
      · exact ⟨_, rfl, .inl rfl⟩
      · exact ⟨_, rfl, .inl rfl⟩
      · exact ⟨_, rfl, .inl rfl⟩
      · exact ⟨_, rfl, .inr ⟨t, rfl, .inr (.inl ⟨_, e1⟩)⟩⟩
      · exact ⟨_, rfl, .inr ⟨l, rfl, .inl ⟨_, e2⟩⟩⟩
    obtain ⟨v, av, tv⟩ := at_
    have ei' : z / 4 % 6 = (i : Int) := ei
    rw [← ei'] at av
    exact ⟨_, rfl, _, rfl, _, _, rfl, rfl, ⟨by decide, by decide⟩, _, _, rfl, rfl, q_6, lo, _, _, v, rfl, rfl, SqL.of e0, av, kq v H1 S1 tv⟩
  refine ⟨_, rfl, _, _, rfl, rfl, q_4, rfl, _, rfl, eqI (fun _ => ?_) (fun _ => ?_)⟩
  · exact ⟨_, rfl, _, rfl, _, _, rfl, rfl, kq _ H1 S1 (.inl rfl)⟩
  refine ⟨_, rfl, _, _, rfl, rfl, q_4, rfl, _, rfl, eqI (fun _ => ?_) (fun _ => ?_)⟩
  · have s2 : Sz 2 (far % 2) := by
      have a := Int.emod_nonneg far (show (2 : Int) ≠ 0 by decide)
      have b := Int.emod_lt_of_pos far (show (0 : Int) < 2 by decide)
      unfold Sz
      omega
    exact ⟨_, rfl, _, rfl, _, rfl, _, _, rfl, rfl, q_2, _, _, rfl, rfl, ⟨_, _, sf, s2, by decide⟩, _, _, rfl, rfl, kq _ H1 S1 (.inl rfl)⟩
  · exact ⟨_, rfl, _, _, rfl, rfl, ⟨by decide, by decide⟩, _, _, rfl, rfl, q_10, kq _ H1 S1 (.inl rfl)⟩
end
end K36

set_option maxHeartbeats 4000000
namespace K36
open PySem PySem.Spec PyProof.Rows L2 Am Pc Ba
open Pt hiding kit_tt
def spThing (K : PySem.W.Frag) : Sp := fun vs H Q _ => ∃ (z : Int) (c : Nat) (far : Int), vs = [.int z, .int c, .int far] ∧ 1 ≤ c ∧ c ≤ 6 ∧ 0 ≤ far ∧ Sz 140 far ∧ ∀ (v : V) (H' : Hp) (d : Nat), Same H H' → Verd K H' c v d → ownV v → Q v H'
theorem q_7 : (0 : Int) < 7 := by decide
theorem q_8 : (0 : Int) < 8 := by decide
theorem q_3 : (0 : Int) < 3 := by decide
theorem z8l : (8 : Nat) ≤ sizeLine := by decide
theorem z4l : (4 : Nat) ≤ sizeLine := by decide
theorem z3l : (3 : Nat) ≤ sizeLine := by decide
theorem q_14 : (0 : Int) < 14 := by decide
theorem z2l : (2 : Nat) ≤ sizeLine := by decide
theorem z12l : (12 : Nat) ≤ sizeLine := by decide
theorem kit_ls (K : PySem.W.Frag) : PySem.W.kitOne K (.type "list") (.type "str") = some false := by with_unfolding_all rfl
theorem kit_ns (K : PySem.W.Frag) : PySem.W.kitOne K (.type "NoneType") (.type "str") = some false := by with_unfolding_all rfl
theorem kit_ds (K : PySem.W.Frag) : PySem.W.kitOne K (.type "dict") (.type "str") = some false := by with_unfolding_all rfl
theorem kit_is (K : PySem.W.Frag) : PySem.W.kitOne K (.type "int") (.type "str") = some false := by with_unfolding_all rfl
theorem gm_of {nm : Str} {ns : List Int} {c : Nat} (h : (nm = "mix" ∧ ∃ a : Nat, a < c ∧ ns = [(a : Int)]) ∨ ∃ v : Mv, v.Ok c ∧ nm = v.nm ∧ ns = v.ns) : ∃ m : Gm, m.Ok c ∧ nm = m.nm ∧ ns = m.ns := by
  rcases h with ⟨rfl, a, ha, rfl⟩ | ⟨v, h1, h2, h3⟩
  · exact ⟨.mix a, ha, rfl, rfl⟩
  · exact ⟨.mv v, h1, h2, h3⟩
theorem shape {nm : Str} {ns : List Int} (F : Form nm ns) : (∃ a, ns = [a]) ∨ (∃ a b, ns = [a, b]) ∨ ∃ a b d, ns = [a, b, d] := by
  match ns, F.len, F.num with
  | [], _, z => exact (no_zero z).elim
  | [a], _, _ => exact .inl ⟨a, rfl⟩
  | [a, b], _, _ => exact .inr (.inl ⟨a, b, rfl⟩)
  | [a, b, d], _, _ => exact .inr (.inr ⟨a, b, d, rfl⟩)
theorem ownInts {H : Hp} (ns : List Int) : ∀ x ∈ ns.map V.int, Thg H x := fun x hx => by
  obtain ⟨n, _, rfl⟩ := List.mem_map.mp hx
  exact .inl rfl
theorem pickV {N : Nat} (xs : List V) (hl : xs.length = N) (z : Int) (h : 0 < N) : ∃ v ∈ xs, atI xs (z % (N : Int)) = some v := by
  obtain ⟨i, hi, e⟩ := modn z h
  rw [e]
  have hx : i < xs.length := by omega
  exact ⟨xs[i], List.getElem_mem hx, atI_nat (List.getElem?_eq_getElem hx)⟩
theorem cut_from {xs : List V} {p : Nat} {i : Int} (hi : i = p) : cutV xs (some i) none = xs.drop p := by
  subst hi
  unfold cutV
  rw [HT.sIx_nat]
  have e2 : HT.sIx xs.length xs.length none = xs.length := rfl
  rw [e2]
  by_cases h : p ≤ xs.length
  · rw [Nat.min_eq_left h, List.take_of_length_le (by rw [List.length_drop]; exact Nat.le_refl _)]
  · rw [Nat.min_eq_right (by omega), Nat.sub_self, List.take_zero, List.drop_eq_nil_of_le (by omega)]
theorem cut_to {xs : List V} {p : Nat} {e : Int} (he : e = p) : cutV xs none (some e) = xs.take p := by
  subst he
  unfold cutV
  rw [HT.sIx_nat]
  have e2 : HT.sIx xs.length 0 none = 0 := rfl
  rw [e2, List.drop_zero, Nat.sub_zero]
  by_cases h : p ≤ xs.length
  · rw [Nat.min_eq_left h]
  · rw [Nat.min_eq_right (by omega), List.take_of_length_le (Nat.le_refl _), List.take_of_length_le (by omega)]
theorem szm (x : Int) : Sz 140 (x % (10 ^ (30 : Int).toNat)) := by
  have p : (0 : Int) < 10 ^ (30 : Int).toNat := by decide +kernel
  have a := Int.emod_nonneg x (Int.ne_of_gt p)
  have b := Int.emod_lt_of_pos x p
  have d : (10 ^ (30 : Int).toNat : Int) < 2 ^ 140 := by decide +kernel
  unfold Sz
  have e : (((x % (10 ^ (30 : Int).toNat)).natAbs : Nat) : Int) < ((2 ^ 140 : Nat) : Int) := by
    rw [Int.natAbs_of_nonneg a]
    exact Int.lt_trans b (by simpa using d)
  exact Int.ofNat_lt.mp e
section
variable {P : Program} {w : World} {K : PySem.W.Frag} {mg : Str → Option Value} {base : Heap} {k : Nat} {h : Heap}
theorem sc_thing : FnScope ["_law_cell", "_law_cells", "_law_far", "_law_move", "_law_way", "_law_at", "_law_number", "_law_some"] ["_law_cell", "_law_cells", "_law_far"] (defScope (top 49)) := ⟨rfl, rfl, rfl, by decide +kernel, rfl, by decide +kernel, by decide +kernel⟩
theorem ok_thing (F : FunAt K "_law_thing_by" (top 49) .none) (X : K.In h) (G : h.Ns mainGlobals mg) (B : Bs mg) (c__law_move_by : Cal P w K mg base k "_law_move_by" ["_law_cell", "_law_cells"] spMoveBy) (c__law_number_by : Cal P w K mg base k "_law_number_by" ["_law_cell", "_law_cells", "_law_far"] spNumBy) : Cal P w K mg base (k + 1) "_law_thing_by" ["_law_cell", "_law_cells", "_law_far"] (spThing K) := by
  have nd := sc_thing.nd
  refine F.cal X G sc_thing (bnd3 fun _ _ _ _ _ _ _ _ _ => rfl) (fun vs H Q E h => ?_) (fun f cdv A outer s H vs Q E hr h => ?_)
  · obtain ⟨z, c, far, rfl, _⟩ := h; rfl
  obtain ⟨z, c, far, rfl, c1, c6, f0, sf, kq⟩ := h
  have fin : ∀ (p : Addr) (nm : Str) (xs : List V) (H' : Hp), Same H H' → H' p = some (.tup (.str nm :: xs)) → (∀ x ∈ xs, Thg H' x) → Q (.ref p) H' := fun p nm xs H' S e th => by
    obtain ⟨d, vd⟩ := classify (K := K) (c := c) e th
    exact kq _ _ d S vd (.inr ⟨p, rfl⟩)
  refine ⟨_, (@pss_cons _ _ _ _ _ (@ps_set _ _ 3 _ _ _ _ nd rfl (Or.inl rfl) (pe_cal c__law_move_by hr rfl (@pa_cons _ _ _ _ _ (pe_op op_fdiv (pv 0) pe_int) (@pa_cons _ _ _ _ _ (pv 1) pa_nil rfl) rfl)) rfl (.inl rfl)) (@pss_cons _ _ _ _ _ (@ps_set _ _ 4 _ _ _ _ nd rfl (Or.inl rfl) (pe_op op_mod (pv 0) pe_int) rfl (.inl rfl)) (@pss_cons _ _ _ _ _ (ps_if (pt_cmpR op_eq (pv 4) pe_int (nomark _)) (@pss_one _ _ _ (ps_ret (pe_callTy call_tuple_of rfl B.tuple boot_tuple (@pa_cons _ _ _ _ _ (pe_op op_cat (@pe_lst _ _ _ _ (@pa_cons _ _ _ _ _ (@pe_ix _ _ _ _ _ _ _ ix_list (@pe_lst _ _ _ _ (@pa_cons _ _ _ _ _ pe_str (@pa_cons _ _ _ _ _ pe_str (@pa_cons _ _ _ _ _ pe_str (@pa_cons _ _ _ _ _ pe_str (@pa_cons _ _ _ _ _ pe_str (@pa_cons _ _ _ _ _ pe_str (@pa_cons _ _ _ _ _ pe_str (@pa_cons _ _ _ _ _ pe_str pa_nil rfl) rfl) rfl) rfl) rfl) rfl) rfl) rfl)) (pe_op op_mod (pv 2) pe_int) (fun _ _ => rfl)) pa_nil rfl)) (pe_callTy call_list_of rfl B.list boot_list (@pa_cons _ _ _ _ _ (pe_slice sl_tup (pv 3) (po_some pe_int) po_none) pa_nil rfl))) pa_nil rfl)))) pss_nil) (@pss_cons _ _ _ _ _ (ps_if (pt_cmpR op_eq (pv 4) pe_int (nomark _)) (@pss_one _ _ _ (ps_ret (pe_slice sl_tup (pv 3) po_none (po_some (pe_un un_neg pe_int))))) pss_nil) (@pss_cons _ _ _ _ _ (ps_if (pt_cmpR op_eq (pv 4) pe_int (nomark _)) (@pss_one _ _ _ (ps_ret (pe_op op_catT (pv 3) (@pe_tup _ _ _ _ _ (@pa_cons _ _ _ _ _ (pe_op op_mod (pv 2) pe_int) pa_nil rfl))))) pss_nil) (@pss_cons _ _ _ _ _ (ps_if (pt_cmpR op_eq (pv 4) pe_int (nomark _)) (@pss_one _ _ _ (ps_ret (@pe_tup _ _ _ _ _ (@pa_cons _ _ _ _ _ pe_str (@pa_cons _ _ _ _ _ (@pe_ix _ _ _ _ _ _ _ ix_tup (pv 3) pe_int (fun _ _ => rfl)) (@pa_cons _ _ _ _ _ (@pe_ix _ _ _ _ _ _ _ ix_list (@pe_lst _ _ _ _ (@pa_cons _ _ _ _ _ pe_int (@pa_cons _ _ _ _ _ pe_int (@pa_cons _ _ _ _ _ (pe_op op_sub (pe_un un_neg pe_int) (pv 2)) (@pa_cons _ _ _ _ _ (pe_op op_add pe_int (pv 2)) pa_nil rfl) rfl) rfl) rfl)) (pe_op op_mod (pe_op op_fdiv (pv 2) pe_int) pe_int) (fun _ _ => rfl)) pa_nil rfl) rfl) rfl)))) pss_nil) (@pss_cons _ _ _ _ _ (ps_if (pt_cmpR op_eq (pv 4) pe_int (nomark _)) (@pss_cut _ _ _ _ _ (@ps_set _ _ 5 _ _ _ _ nd rfl (Or.inl rfl) (pe_op op_add pe_int (pe_op op_mod (pv 2) (pe_op op_sub (pe_callB call_len_seq rfl B.len PySem.boot_len (@pa_cons _ _ _ _ _ (pv 3) pa_nil rfl)) pe_int))) rfl (.inl rfl)) (@pss_cons _ _ _ _ _ (@ps_set _ _ 6 _ _ _ _ nd rfl (Or.inl rfl) (pe_cal c__law_number_by hr rfl (@pa_cons _ _ _ _ _ (pe_op op_mod (pe_op op_fdiv (pv 2) pe_int) (pe_op op_pow pe_int pe_int)) (@pa_cons _ _ _ _ _ (pv 1) (@pa_cons _ _ _ _ _ (pe_op op_mod (pe_op op_fdiv (pv 2) pe_int) (pe_op op_pow pe_int pe_int)) pa_nil rfl) rfl) rfl)) rfl (.inl rfl)) (@pss_one _ _ _ (ps_ret (pe_op op_catT (pe_op op_catT (pe_slice sl_tup (pv 3) po_none (po_some (pv 5))) (@pe_tup _ _ _ _ _ (@pa_cons _ _ _ _ _ (pv 6) pa_nil rfl))) (pe_slice sl_tup (pv 3) (po_some (pe_op op_add (pv 5) pe_int)) po_none)))))) pss_nil) (@pss_cons _ _ _ _ _ (ps_if (PW.pt (pw_and (pt_cmpR op_eq (pv 4) pe_int (nomark _)) (pw_and1 (pt_cmpR op_eq (pe_op op_mod (pv 2) pe_int) pe_int (nomark _))))) (@pss_cons _ _ _ _ _ (@ps_set _ _ 7 _ _ _ _ nd rfl (Or.inl rfl) (@pe_lst _ _ _ _ (@pa_cons _ _ _ _ _ pe_non (@pa_cons _ _ _ _ _ pe_str (@pa_cons _ _ _ _ _ pe_int (@pa_cons _ _ _ _ _ pe_bl (@pa_cons _ _ _ _ _ (@pe_lst _ _ _ _ pa_nil) (@pa_cons _ _ _ _ _ (@pe_tup _ _ _ _ _ pa_nil) (@pa_cons _ _ _ _ _ pe_dnewK (@pa_cons _ _ _ _ _ (@pe_tup _ _ _ _ _ (@pa_cons _ _ _ _ _ pe_str pa_nil rfl)) (@pa_cons _ _ _ _ _ (@pe_lst _ _ _ _ (@pa_cons _ _ _ _ _ pe_str (@pa_cons _ _ _ _ _ pe_int pa_nil rfl) rfl)) (@pa_cons _ _ _ _ _ (@pe_tup _ _ _ _ _ (@pa_cons _ _ _ _ _ (@pe_lst _ _ _ _ (@pa_cons _ _ _ _ _ pe_str (@pa_cons _ _ _ _ _ pe_int pa_nil rfl) rfl)) pa_nil rfl)) (@pa_cons _ _ _ _ _ (@pe_tup _ _ _ _ _ (@pa_cons _ _ _ _ _ (@pe_lst _ _ _ _ pa_nil) (@pa_cons _ _ _ _ _ pe_int pa_nil rfl) rfl)) (@pa_cons _ _ _ _ _ (@pe_tup _ _ _ _ _ (@pa_cons _ _ _ _ _ pe_non (@pa_cons _ _ _ _ _ pe_int pa_nil rfl) rfl)) pa_nil rfl) rfl) rfl) rfl) rfl) rfl) rfl) rfl) rfl) rfl) rfl) rfl)) rfl (.inl rfl)) (@pss_one _ _ _ (ps_ret (@pe_ix _ _ _ _ _ _ _ ix_list (pe_op op_cat (pv 7) (@pe_lst _ _ _ _ (@pa_cons _ _ _ _ _ (@pe_tup _ _ _ _ _ (@pa_cons _ _ _ _ _ pe_dnewK (@pa_cons _ _ _ _ _ pe_int (@pa_cons _ _ _ _ _ pe_int pa_nil rfl) rfl) rfl)) (@pa_cons _ _ _ _ _ (@pe_tup _ _ _ _ _ (@pa_cons _ _ _ _ _ pe_int (@pa_cons _ _ _ _ _ pe_int pa_nil rfl) rfl)) pa_nil rfl) rfl))) (pe_op op_mod (pe_op op_fdiv (pv 2) pe_int) pe_int) (fun _ _ => rfl))))) pss_nil) (@pss_cons _ _ _ _ _ (ps_if (pt_cmpR op_eq (pv 4) pe_int (nomark _)) (@pss_one _ _ _ (ps_ret (@pe_tup _ _ _ _ _ (@pa_cons _ _ _ _ _ (@pe_ix _ _ _ _ _ _ _ ix_list (@pe_lst _ _ _ _ (@pa_cons _ _ _ _ _ pe_str (@pa_cons _ _ _ _ _ pe_str (@pa_cons _ _ _ _ _ pe_str pa_nil rfl) rfl) rfl)) (pe_op op_mod (pe_op op_fdiv (pv 2) pe_int) pe_int) (fun _ _ => rfl)) (@pa_cons _ _ _ _ _ (@pe_ix _ _ _ _ _ _ _ ix_tup (pv 3) pe_int (fun _ _ => rfl)) (@pa_cons _ _ _ _ _ (@pe_ix _ _ _ _ _ _ _ ix_tup (pv 3) pe_int (fun _ _ => rfl)) pa_nil rfl) rfl) rfl)))) pss_nil) (@pss_one _ _ _ (ps_ret (pv 3)))))))))))), ?_⟩
  try dsimp only [cxK]
  refine ⟨_, rfl, _, _, rfl, rfl, ⟨by decide, by decide⟩, _, rfl, _, c, rfl, c1, c6, fun r H1 nm ns S1 e1 hm => ?_⟩
  obtain ⟨m, mok, rfl, rfl⟩ := gm_of hm
  have FI := Gm.fits mok
  have sh := shape FI.form
  generalize m.nm = nm at e1 FI
  generalize m.ns = ns at e1 FI sh
  clear hm mok
  have SP : SqT K H1 r (.str nm :: ns.map V.int) := SqT.of e1
  refine ⟨_, rfl, _, _, rfl, rfl, q_7, ?_⟩
  refine ⟨_, rfl, rfl, _, rfl, eqI (fun _ => ?_) (fun _ => ?_)⟩
  · -- another name
    obtain ⟨v8, m8, a8⟩ := pickV (N := 8) [V.str "Flip", V.str "mix ", V.str "", V.str "turns", V.str "look", V.str "if", V.str "pair", V.str "cross"] rfl far (by decide)
    obtain ⟨nm', rfl⟩ : ∃ nm' : Str, v8 = .str nm' := by
      simp at m8
      rcases m8 with rfl | rfl | rfl | rfl | rfl | rfl | rfl | rfl <;> exact ⟨_, rfl⟩
    refine ⟨z8l, fun l8 h8 => ⟨_, rfl, _, _, rfl, rfl, q_8, l8, _, _, .str nm', rfl, rfl, SqL.of upd_same, a8, z1l, fun l1 h1 => ?_⟩⟩
    have s1 := (same_new h8 (.lst [V.str "Flip", V.str "mix ", V.str "", V.str "turns", V.str "look", V.str "if", V.str "pair", V.str "cross"])).trans (same_new h1 (.lst [V.str nm']))
    refine ⟨_, rfl, _, rfl, r, _, rfl, s1.tup SP, fun c => absurd c.1 (by rw [one_ix]; decide), fun t ht => ?_⟩
    rw [cut_one]
    have s2 := same_new ht (.tup (ns.map V.int))
    refine ⟨t, _, rfl, .inr (SqT.of upd_same), fun l2 h2 => ?_⟩
    have s3 := same_new h2 (.lst (ns.map V.int))
    refine ⟨l1, l2, _, _, rfl, rfl, (s2.trans s3) _ _ upd_same, upd_same, (by have := FI.form.len; simp; exact Nat.le_trans (show 1 + ns.length ≤ 4 by omega) z4l), fun l3 h3 => ?_⟩
    have s4 := same_new h3 (.lst ([V.str nm'] ++ ns.map V.int))
    refine ⟨l3, _, rfl, .inl ⟨SqL.of upd_same, fun tp htp => ?_⟩⟩
    exact fin tp nm' (ns.map V.int) _ (S1.trans (s1.trans (s2.trans (s3.trans (s4.trans (same_new htp _)))))) upd_same (ownInts ns)
  refine ⟨_, rfl, rfl, _, rfl, eqI (fun _ => ?_) (fun _ => ?_)⟩
  · -- one number less
    obtain ⟨ys, ey, nw⟩ : ∃ ys : List Int, cutV (.str nm :: ns.map V.int) none (some (-1)) = .str nm :: ys.map V.int ∧ ¬ (HT.sIx (V.str nm :: ns.map V.int).length 0 none = 0 ∧ HT.sIx (V.str nm :: ns.map V.int).length (V.str nm :: ns.map V.int).length (some (-1)) = (V.str nm :: ns.map V.int).length) := by
      rcases sh with ⟨a, rfl⟩ | ⟨a, b, rfl⟩ | ⟨a, b, d, rfl⟩
      · exact ⟨[], rfl, fun z => absurd z.2 (by simp [HT.sIx])⟩
      · exact ⟨[a], rfl, fun z => absurd z.2 (by simp [HT.sIx])⟩
      · exact ⟨[a, b], rfl, fun z => absurd z.2 (by simp [HT.sIx])⟩
    refine ⟨_, rfl, _, rfl, _, rfl, r, _, rfl, SP, nw, fun t ht => ?_⟩
    exact fin t nm (ys.map V.int) _ (S1.trans (same_new ht _)) (by rw [upd_same]; show some (HO.tup (cutV (.str nm :: ns.map V.int) none (some (-1)))) = _; rw [ey]) (ownInts ys)
  refine ⟨_, rfl, rfl, _, rfl, eqI (fun _ => ?_) (fun _ => ?_)⟩
  · -- one number more
    refine ⟨_, rfl, _, rfl, _, _, rfl, rfl, q_7, z1l, fun t ht => ?_⟩
    have s1 := same_new ht (.tup [V.int (far % 7)])
    refine ⟨r, t, _, _, rfl, rfl, s1.tup SP, SqT.of upd_same, by simp, (by have := FI.form.len; simp; exact Nat.le_trans (show ns.length + 1 + 1 ≤ 8 by omega) z8l), fun z => absurd z (by simp), fun _ p hp => ?_⟩
    refine fin p nm (ns.map V.int ++ [V.int (far % 7)]) _ (S1.trans (s1.trans (same_new hp _))) upd_same fun x hx => ?_
    rcases List.mem_append.mp hx with hx | hx
    · exact ownInts ns x hx
    · rw [List.mem_singleton.mp hx]; exact .inl rfl
  obtain ⟨a, rest, en⟩ : ∃ a rest, ns = a :: rest := by
    rcases sh with ⟨a, rfl⟩ | ⟨a, b, rfl⟩ | ⟨a, b, d, rfl⟩ <;> exact ⟨_, _, rfl⟩
  have at1 : atI (V.str nm :: ns.map V.int) 1 = some (.int a) := by rw [en]; exact atI_nat (j := 1) rfl
  refine ⟨_, rfl, rfl, _, rfl, eqI (fun _ => ?_) (fun _ => ?_)⟩
  · -- turns
    obtain ⟨v4, m4, a4⟩ := pickV (N := 4) [V.int 0, V.int 8, V.int (-1 - far), V.int (8 + far)] rfl (far / 3) (by decide)
    obtain ⟨b, rfl⟩ : ∃ b : Int, v4 = .int b := by
      simp at m4
      rcases m4 with rfl | rfl | rfl | rfl <;> exact ⟨_, rfl⟩
    refine ⟨_, rfl, r, _, _, .int a, rfl, rfl, SP, at1, _, rfl, _, rfl, _, _, rfl, rfl, _, rfl, _, _, rfl, rfl, z4l, fun l4 h4 => ?_⟩
    refine ⟨_, rfl, _, _, rfl, rfl, ⟨by decide, by decide⟩, _, _, rfl, rfl, q_4, l4, _, _, .int b, rfl, rfl, SqL.of upd_same, a4, z3l, fun tp htp => ?_⟩
    exact fin tp "turn" [.int a, .int b] _ (S1.trans ((same_new h4 _).trans (same_new htp _))) upd_same (ownInts [a, b])
  refine ⟨_, rfl, rfl, _, rfl, eqI (fun _ => ?_) (fun _ => ?_)⟩
  · -- another number
    have l3 := FI.form.len
    have nl : ns.length = rest.length + 1 := by rw [en]; rfl
    have elen : (((V.str nm :: ns.map V.int).length : Nat) : Int) - 1 = (ns.length : Int) := by simp
    refine ⟨fun σ H' => H' = H1 ∧ ∃ i : Nat, i < ns.length ∧ σ = [some (.int z), some (.int (c : Nat)), some (.int far), some (.ref r), some (.int (z % 7)), some (.int ((i + 1 : Nat) : Int)), none, none], ?_, ?_⟩
    · obtain ⟨i, hi, ei⟩ := modn far (show 0 < ns.length by omega)
      refine ⟨_, rfl, _, rfl, r, _, rfl, .inr SP, _, _, rfl, rfl, _, _, rfl, rfl, (by show (0 : Int) < (((V.str nm :: ns.map V.int).length : Nat) : Int) - 1; rw [elen]; omega), _, _, rfl, rfl, rfl, i, hi, ?_⟩
      show [some (V.int z), some (V.int (c : Nat)), some (V.int far), some (V.ref r), some (V.int (z % 7)), some (V.int (1 + far % ((((V.str nm :: ns.map V.int).length : Nat) : Int) - 1))), none, none] = _
      rw [elen, ei, show (1 : Int) + (i : Int) = ((i + 1 : Nat) : Int) by omega]
    rintro σ4 H1' ⟨rfl, i, hi, rfl⟩
    refine ⟨_, rfl, _, _, rfl, rfl, ⟨by decide, by decide⟩, _, _, rfl, rfl, ⟨by decide, by decide, by decide⟩, _, _, rfl, rfl, (show (0 : Int) < 10 ^ (6 : Int).toNat by decide), _, rfl, _, rfl, _, _, rfl, rfl, ⟨by decide, by decide⟩, _, _, rfl, rfl, ⟨by decide, by decide, by decide⟩, _, _, rfl, rfl, (show (0 : Int) < 10 ^ (30 : Int).toNat by decide +kernel), _, c, _, rfl, szm _, fun v H2 S2 tv => ?_⟩
    have SP2 : SqT K H2 r (.str nm :: ns.map V.int) := S2.tup SP
    have c1' : cutV (.str nm :: ns.map V.int) none (some ((i + 1 : Nat) : Int)) = .str nm :: (ns.take i).map V.int := by
      rw [cut_to rfl, List.map_take]; rfl
    have c2' : cutV (.str nm :: ns.map V.int) (some (((i + 1 : Nat) : Int) + 1)) none = (ns.drop (i + 1)).map V.int := by
      rw [cut_from (p := i + 2) (by omega), List.map_drop]; rfl
    have ln : (V.str nm :: ns.map V.int).length = ns.length + 1 := by simp
    refine ⟨_, rfl, _, rfl, _, rfl, r, _, rfl, SP2, (fun q => by have q2 := q.2; rw [HT.sIx_nat, ln] at q2; omega), fun t1 h1 => ?_⟩
    have s1 := same_new h1 (.tup (cutV (.str nm :: ns.map V.int) none (some ((i + 1 : Nat) : Int))))
    have e1' : upd H2 t1 (.tup (cutV (.str nm :: ns.map V.int) none (some ((i + 1 : Nat) : Int)))) t1 = some (.tup (.str nm :: (ns.take i).map V.int)) := by rw [upd_same, c1']
    generalize upd H2 t1 (.tup (cutV (.str nm :: ns.map V.int) none (some ((i + 1 : Nat) : Int)))) = H3 at s1 e1' ⊢
    refine ⟨_, rfl, z1l, fun t2' h2 => ?_⟩
    have s2 := same_new h2 (.tup [v])
    have e2' : upd H3 t2' (.tup [v]) t2' = some (.tup [v]) := upd_same
    generalize upd H3 t2' (.tup [v]) = H4 at s2 e2' ⊢
    refine ⟨t1, t2', _, _, rfl, rfl, SqT.of (s2 _ _ e1'), SqT.of e2', by simp, (by simp; exact Nat.le_trans (show min i ns.length + 1 + 1 ≤ 8 by omega) z8l), fun q => absurd q (by simp), fun _ p1 hp1 => ?_⟩
    have s3 := same_new hp1 (.tup (.str nm :: (ns.take i).map V.int ++ [v]))
    have e3' : upd H4 p1 (.tup (.str nm :: (ns.take i).map V.int ++ [v])) p1 = some (.tup (.str nm :: ((ns.take i).map V.int ++ [v]))) := upd_same
    generalize upd H4 p1 (.tup (.str nm :: (ns.take i).map V.int ++ [v])) = H5 at s3 e3' ⊢
    have S25 := s1.trans (s2.trans s3)
    refine ⟨_, rfl, _, rfl, _, _, rfl, rfl, _, rfl, r, _, rfl, S25.tup SP2, (fun q => by have q1 := q.1; rw [show ((i + 1 : Nat) : Int) + 1 = ((i + 2 : Nat) : Int) by omega, HT.sIx_nat, ln] at q1; omega), fun t3' h3 => ?_⟩
    have s4 := same_new h3 (.tup (cutV (.str nm :: ns.map V.int) (some (((i + 1 : Nat) : Int) + 1)) none))
    have e4' : upd H5 t3' (.tup (cutV (.str nm :: ns.map V.int) (some (((i + 1 : Nat) : Int) + 1)) none)) t3' = some (.tup ((ns.drop (i + 1)).map V.int)) := by rw [upd_same, c2']
    generalize upd H5 t3' (.tup (cutV (.str nm :: ns.map V.int) (some (((i + 1 : Nat) : Int) + 1)) none)) = H6 at s4 e4' ⊢
    have S6 := S1.trans (S2.trans (S25.trans s4))
    have th : ∀ {H' : Hp}, Same H6 H' → ∀ x ∈ (ns.take i).map V.int ++ [v], Thg H' x := fun {H'} S x hx => by
      rcases List.mem_append.mp hx with hx | hx
      · exact ownInts _ x hx
      · rw [List.mem_singleton.mp hx]; exact tv.same (S25.trans (s4.trans S))
    refine ⟨p1, t3', _, _, rfl, rfl, SqT.of (s4 _ _ e3'), SqT.of e4', by simp, (by simp; exact Nat.le_trans (show min i ns.length + 1 + 1 + (ns.length - (i + 1)) ≤ 8 by omega) z8l), fun _ => fin p1 nm _ _ S6 (s4 _ _ e3') (th (Same.refl _)), fun _ p2 hp2 => ?_⟩
    refine fin p2 nm ((ns.take i).map V.int ++ [v] ++ (ns.drop (i + 1)).map V.int) _ (S6.trans (same_new hp2 _)) upd_same fun x hx => ?_
    rcases List.mem_append.mp hx with hx | hx
    · exact th (same_new hp2 _) x hx
    · exact ownInts _ x hx
  refine ⟨_, rfl, rfl, _, rfl, eqI (fun _ => ⟨_, rfl, _, _, rfl, rfl, q_3, rfl, _, rfl, eqI (fun _ => ?_) (fun _ => ?_)⟩) (fun _ => ?_)⟩
  · refine ⟨Nat.zero_le _, fun a1 ha1 => ?_⟩
    have sa1 := same_new ha1 (.lst [])
    have ea1 : upd H1 a1 (.lst []) a1 = some (.lst []) := upd_same
    generalize upd H1 a1 (.lst []) = G1 at sa1 ea1 ⊢
    refine ⟨Nat.zero_le _, fun a2 ha2 => ?_⟩
    have sa2 := same_new ha2 (.tup [])
    have ea2 : upd G1 a2 (.tup []) a2 = some (.tup []) := upd_same
    generalize upd G1 a2 (.tup []) = G2 at sa2 ea2 ⊢
    refine fun a3 ha3 => ?_
    have sa3 := same_new ha3 (.dK [])
    have ea3 : upd G2 a3 (.dK []) a3 = some (.dK []) := upd_same
    generalize upd G2 a3 (.dK []) = G3 at sa3 ea3 ⊢
    refine ⟨z1l, fun a4 ha4 => ?_⟩
    have sa4 := same_new ha4 (.tup [V.str "flip"])
    have ea4 : upd G3 a4 (.tup [V.str "flip"]) a4 = some (.tup [V.str "flip"]) := upd_same
    generalize upd G3 a4 (.tup [V.str "flip"]) = G4 at sa4 ea4 ⊢
    refine ⟨z2l, fun a5 ha5 => ?_⟩
    have sa5 := same_new ha5 (.lst [V.str "flip", V.int 0])
    have ea5 : upd G4 a5 (.lst [V.str "flip", V.int 0]) a5 = some (.lst [V.str "flip", V.int 0]) := upd_same
    generalize upd G4 a5 (.lst [V.str "flip", V.int 0]) = G5 at sa5 ea5 ⊢
    refine ⟨z2l, fun a6 ha6 => ?_⟩
    have sa6 := same_new ha6 (.lst [V.str "flip", V.int 0])
    have ea6 : upd G5 a6 (.lst [V.str "flip", V.int 0]) a6 = some (.lst [V.str "flip", V.int 0]) := upd_same
    generalize upd G5 a6 (.lst [V.str "flip", V.int 0]) = G6 at sa6 ea6 ⊢
    refine ⟨z1l, fun a7 ha7 => ?_⟩
    have sa7 := same_new ha7 (.tup [V.ref a6])
    have ea7 : upd G6 a7 (.tup [V.ref a6]) a7 = some (.tup [V.ref a6]) := upd_same
    generalize upd G6 a7 (.tup [V.ref a6]) = G7 at sa7 ea7 ⊢
    refine ⟨Nat.zero_le _, fun a8 ha8 => ?_⟩
    have sa8 := same_new ha8 (.lst [])
    have ea8 : upd G7 a8 (.lst []) a8 = some (.lst []) := upd_same
    generalize upd G7 a8 (.lst []) = G8 at sa8 ea8 ⊢
    refine ⟨z2l, fun a9 ha9 => ?_⟩
    have sa9 := same_new ha9 (.tup [V.ref a8, V.int 0])
    have ea9 : upd G8 a9 (.tup [V.ref a8, V.int 0]) a9 = some (.tup [V.ref a8, V.int 0]) := upd_same
    generalize upd G8 a9 (.tup [V.ref a8, V.int 0]) = G9 at sa9 ea9 ⊢
    refine ⟨z2l, fun a10 ha10 => ?_⟩
    have sa10 := same_new ha10 (.tup [V.non, V.int 1])
    have ea10 : upd G9 a10 (.tup [V.non, V.int 1]) a10 = some (.tup [V.non, V.int 1]) := upd_same
    generalize upd G9 a10 (.tup [V.non, V.int 1]) = G10 at sa10 ea10 ⊢
    refine ⟨z12l, fun ls hls => ?_⟩
    have sls := same_new hls (.lst [V.non, V.str "flip", V.int 0, V.bl true, V.ref a1, V.ref a2, V.ref a3, V.ref a4, V.ref a5, V.ref a7, V.ref a9, V.ref a10])
    have els : upd G10 ls (.lst [V.non, V.str "flip", V.int 0, V.bl true, V.ref a1, V.ref a2, V.ref a3, V.ref a4, V.ref a5, V.ref a7, V.ref a9, V.ref a10]) ls = some (.lst [V.non, V.str "flip", V.int 0, V.bl true, V.ref a1, V.ref a2, V.ref a3, V.ref a4, V.ref a5, V.ref a7, V.ref a9, V.ref a10]) := upd_same
    generalize upd G10 ls (.lst [V.non, V.str "flip", V.int 0, V.bl true, V.ref a1, V.ref a2, V.ref a3, V.ref a4, V.ref a5, V.ref a7, V.ref a9, V.ref a10]) = G11 at sls els ⊢
    refine ⟨_, rfl, ?_⟩
    refine fun b1 hb1 => ?_
    have sb1 := same_new hb1 (.dK [])
    have eb1 : upd G11 b1 (.dK []) b1 = some (.dK []) := upd_same
    generalize upd G11 b1 (.dK []) = G12 at sb1 eb1 ⊢
    refine ⟨z3l, fun b2 hb2 => ?_⟩
    have sb2 := same_new hb2 (.tup [V.ref b1, V.int 0, V.int 1])
    have eb2 : upd G12 b2 (.tup [V.ref b1, V.int 0, V.int 1]) b2 = some (.tup [V.ref b1, V.int 0, V.int 1]) := upd_same
    generalize upd G12 b2 (.tup [V.ref b1, V.int 0, V.int 1]) = G13 at sb2 eb2 ⊢
    refine ⟨z2l, fun b3 hb3 => ?_⟩
    have sb3 := same_new hb3 (.tup [V.int 1, V.int 0])
    have eb3 : upd G13 b3 (.tup [V.int 1, V.int 0]) b3 = some (.tup [V.int 1, V.int 0]) := upd_same
    generalize upd G13 b3 (.tup [V.int 1, V.int 0]) = G14 at sb3 eb3 ⊢
    refine ⟨z2l, fun lb hlb => ?_⟩
    have slb := same_new hlb (.lst [V.ref b2, V.ref b3])
    have elb : upd G14 lb (.lst [V.ref b2, V.ref b3]) lb = some (.lst [V.ref b2, V.ref b3]) := upd_same
    generalize upd G14 lb (.lst [V.ref b2, V.ref b3]) = G15 at slb elb ⊢
    have fa1 := (sa2.trans (sa3.trans (sa4.trans (sa5.trans (sa6.trans (sa7.trans (sa8.trans (sa9.trans (sa10.trans (sls.trans (sb1.trans (sb2.trans (sb3.trans (slb)))))))))))))) _ _ ea1
    have fa2 := (sa3.trans (sa4.trans (sa5.trans (sa6.trans (sa7.trans (sa8.trans (sa9.trans (sa10.trans (sls.trans (sb1.trans (sb2.trans (sb3.trans (slb))))))))))))) _ _ ea2
    have fa3 := (sa4.trans (sa5.trans (sa6.trans (sa7.trans (sa8.trans (sa9.trans (sa10.trans (sls.trans (sb1.trans (sb2.trans (sb3.trans (slb)))))))))))) _ _ ea3
    have fa4 := (sa5.trans (sa6.trans (sa7.trans (sa8.trans (sa9.trans (sa10.trans (sls.trans (sb1.trans (sb2.trans (sb3.trans (slb))))))))))) _ _ ea4
    have fa5 := (sa6.trans (sa7.trans (sa8.trans (sa9.trans (sa10.trans (sls.trans (sb1.trans (sb2.trans (sb3.trans (slb)))))))))) _ _ ea5
    have fa6 := (sa7.trans (sa8.trans (sa9.trans (sa10.trans (sls.trans (sb1.trans (sb2.trans (sb3.trans (slb))))))))) _ _ ea6
    have fa7 := (sa8.trans (sa9.trans (sa10.trans (sls.trans (sb1.trans (sb2.trans (sb3.trans (slb)))))))) _ _ ea7
    have fa8 := (sa9.trans (sa10.trans (sls.trans (sb1.trans (sb2.trans (sb3.trans (slb))))))) _ _ ea8
    have fa9 := (sa10.trans (sls.trans (sb1.trans (sb2.trans (sb3.trans (slb)))))) _ _ ea9
    have fa10 := (sls.trans (sb1.trans (sb2.trans (sb3.trans (slb))))) _ _ ea10
    have fls := (sb1.trans (sb2.trans (sb3.trans (slb)))) _ _ els
    have fb1 := (sb2.trans (sb3.trans (slb))) _ _ eb1
    have fb2 := (sb3.trans (slb)) _ _ eb2
    have fb3 := (slb) _ _ eb3
    have ST := S1.trans (sa1.trans (sa2.trans (sa3.trans (sa4.trans (sa5.trans (sa6.trans (sa7.trans (sa8.trans (sa9.trans (sa10.trans (sls.trans (sb1.trans (sb2.trans (sb3.trans (slb)))))))))))))))
    refine ⟨ls, lb, _, _, rfl, rfl, fls, elb, (show (14 : Nat) ≤ sizeLine by decide), fun lc hlc => ?_⟩
    have sc := same_new hlc (.lst ([V.non, V.str "flip", V.int 0, V.bl true, V.ref a1, V.ref a2, V.ref a3, V.ref a4, V.ref a5, V.ref a7, V.ref a9, V.ref a10] ++ [V.ref b2, V.ref b3]))
    have ec : upd G15 lc (.lst ([V.non, V.str "flip", V.int 0, V.bl true, V.ref a1, V.ref a2, V.ref a3, V.ref a4, V.ref a5, V.ref a7, V.ref a9, V.ref a10] ++ [V.ref b2, V.ref b3])) lc = some (.lst ([V.non, V.str "flip", V.int 0, V.bl true, V.ref a1, V.ref a2, V.ref a3, V.ref a4, V.ref a5, V.ref a7, V.ref a9, V.ref a10] ++ [V.ref b2, V.ref b3])) := upd_same
    generalize upd G15 lc (.lst ([V.non, V.str "flip", V.int 0, V.bl true, V.ref a1, V.ref a2, V.ref a3, V.ref a4, V.ref a5, V.ref a7, V.ref a9, V.ref a10] ++ [V.ref b2, V.ref b3])) = GZ at sc ec ⊢
    obtain ⟨v, mv, av⟩ := pickV (N := 14) ([V.non, V.str "flip", V.int 0, V.bl true, V.ref a1, V.ref a2, V.ref a3, V.ref a4, V.ref a5, V.ref a7, V.ref a9, V.ref a10] ++ [V.ref b2, V.ref b3]) rfl (far / 3) (by decide)
    refine ⟨_, rfl, _, _, rfl, rfl, ⟨by decide, by decide⟩, _, _, rfl, rfl, q_14, lc, _, _, v, rfl, rfl, SqL.of ec, av, ?_⟩
    have SZ' := ST.trans sc
    have no : NoForm K GZ v ∧ ownV v := by
      simp at mv
      rcases mv with rfl | rfl | rfl | rfl | rfl | rfl | rfl | rfl | rfl | rfl | rfl | rfl | rfl | rfl
      · exact ⟨.odd .non (kit_nt K), .inl rfl⟩
      · exact ⟨.odd (.str _) (kit_st K), .inl rfl⟩
      · exact ⟨.odd (.int _) (kit_it K), .inl rfl⟩
      · exact ⟨.odd (.bl _) (kit_bt K), .inl rfl⟩
      · exact ⟨.odd (.lst (sc _ _ fa1)) (kit_lt K), .inr ⟨_, rfl⟩⟩
      · exact ⟨.nil (sc _ _ fa2), .inr ⟨_, rfl⟩⟩
      · exact ⟨.odd (.dK (sc _ _ fa3)) (kit_dt K), .inr ⟨_, rfl⟩⟩
      · exact ⟨.size (n := 1) (sc _ _ fa4) (by decide) (by decide), .inr ⟨_, rfl⟩⟩
      · exact ⟨.odd (.lst (sc _ _ fa5)) (kit_lt K), .inr ⟨_, rfl⟩⟩
      · exact ⟨.head (sc _ _ fa7) (.lst (sc _ _ fa6)) (kit_ls K), .inr ⟨_, rfl⟩⟩
      · exact ⟨.head (sc _ _ fa9) (.lst (sc _ _ fa8)) (kit_ls K), .inr ⟨_, rfl⟩⟩
      · exact ⟨.head (sc _ _ fa10) .non (kit_ns K), .inr ⟨_, rfl⟩⟩
      · exact ⟨.head (sc _ _ fb2) (.dK (sc _ _ fb1)) (kit_ds K), .inr ⟨_, rfl⟩⟩
      · exact ⟨.head (sc _ _ fb3) (.int _) (kit_is K), .inr ⟨_, rfl⟩⟩
    exact kq v _ 1 SZ' (.no no.1) no.2
  all_goals
    refine ⟨_, rfl, rfl, _, rfl, eqI (fun _ => ?_) (fun _ => ?_)⟩
    · obtain ⟨v3, m3, a3⟩ := pickV (N := 3) [V.str "if", V.str "pair", V.str "swap"] rfl (far / 3) (by decide)
      obtain ⟨nm', rfl⟩ : ∃ nm' : Str, v3 = .str nm' := by
        simp at m3
        rcases m3 with rfl | rfl | rfl <;> exact ⟨_, rfl⟩
      refine ⟨z3l, fun l3 h3 => ⟨_, rfl, _, _, rfl, rfl, ⟨by decide, by decide⟩, _, _, rfl, rfl, q_3, l3, _, _, .str nm', rfl, rfl, SqL.of upd_same, a3, ?_⟩⟩
      have s1 := same_new h3 (.lst [V.str "if", V.str "pair", V.str "swap"])
      exact ⟨_, rfl, r, _, _, .int a, rfl, rfl, s1.tup SP, at1, _, rfl, r, _, _, .int a, rfl, rfl, s1.tup SP, at1, z3l, fun tp htp => fin tp nm' [.int a, .int a] _ (S1.trans (s1.trans (same_new htp _))) upd_same (ownInts [a, a])⟩
    · exact ⟨_, rfl, kq _ _ 0 S1 (.fit e1 FI) (.inr ⟨r, rfl⟩)⟩
end
end K36

set_option maxHeartbeats 4000000
namespace K36
open PySem PySem.Spec PyProof.Rows L2 Am Pc Ba
section
variable {P : Program} {w : World} {K : PySem.W.Frag} {mg : Str → Option Value} {base : Heap} {k : Nat} {h : Heap}
theorem binds_start {D : Addr} {oc : Value} {od : Option Addr} {n : Nat} {sl : Array (Option Value)} {t0 : Tok} (l : K.lookup D = some ⟨oc, od, .seq #[.int 0 t0] n, sl⟩) : BindsAll K "start" (top 28) (.ref D) ["cells", "word"] := by
  intro kV doc pm an cdv ct s us X hl
  match us, hl with
  | [a, b], _ => exact BindsTo.of_defaults rfl (X _ _ l) rfl rfl rfl
theorem ok_start {dV : Value} (F : FunAt K "start" (top 28) dV) (bi : BindsAll K "start" (top 28) dV ["cells", "word"]) (X : K.In h) (G : h.Ns mainGlobals mg) (B : Bs mg) {aO aZ : Addr} (gO : mg "ONE" = some (.ref aO)) (gZ : mg "NOUGHT" = some (.ref aZ)) (kO : ∀ H, At5 K H aO ((1, 0, 0, 0), 0)) (kZ : ∀ H, At5 K H aZ ((0, 0, 0, 0), 0))
    (c_check_beginning : Cal P w K mg base k "check_beginning" ["cells", "word"] spBegin) : Cal P w K mg base (k + 1) "start" ["cells", "word"] (spStart K) := by
  have nd := sc_start.nd
  refine F.cal X G sc_start bi (fun vs H Q E h => ?_) (fun f cdv A outer s H vs Q E hr h => ?_)
  · obtain ⟨c, x, rfl, _⟩ := h; rfl
  obtain ⟨c, x, rfl, c1, c6, xc, kq⟩ := h
  have p6 := pow6 c6
  have hN : (1 : Int) * 2 ^ ((c : Int).toNat) = ((2 ^ c : Nat) : Int) := ipow c
  have hM : (1 * 2 ^ ((c : Int).toNat) : Int).toNat = 2 ^ c := by rw [hN, Int.toNat_natCast]
  refine ⟨_, (@pss_cons _ _ _ _ _ (ps_expr (pe_cal c_check_beginning hr rfl (pa_cons (pv 0) (pa_cons (pv 1) pa_nil))))
    (@pss_one _ _ _ (ps_ret (pe_lc rfl (LcOk.of (Nc := ["place", "word"]) (mp := [none, some 1]) (by kernel_rfl)) (pi_range1 rfl B.range (pa_cons (pe_op op_shlS pe_int (pv 0)) pa_nil)) (fun _ _ _ _ => (pg_name (i := 0) (show (["place", "word"] : List Str).Nodup by decide +kernel) rfl (Or.inl rfl))) (fun _ _ _ _ => (pe_ifExp (pt_cmpR op_eq (pv 0) (pv 1) (nomark _)) (pe_glob (v := .ref aO) rfl gO rfl) (pe_glob (v := .ref aZ) rfl gZ rfl))))))), ?_⟩
  try dsimp only [cxK]
  refine ⟨_, rfl, _, rfl, c, x, rfl, c1, c6, xc, ?_⟩
  refine ⟨_, rfl, _, _, rfl, rfl, ⟨1, sz1, by omega, by omega⟩, _, rfl, by rw [hN]; omega, by rw [hN]; omega, fun acc hacc => ?_⟩
  rw [hM]
  refine lc_range (n := 2 ^ c) (fr := [some (.int x)]) (fun i ys H' => ∃ qs : List Addr, Same H H' ∧ H' acc = some (.lst ys) ∧ ys = qs.map V.ref ∧ qs.length = i ∧ ValsK K H' qs (st x)) (t64 p6)
    ⟨[], same_new hacc _, upd_same, rfl, rfl, (fun _ _ z => by cases z)⟩ ?_ ?_
  · rintro i ys H2 N hi hy ⟨qs, S2, a2, rfl, ql, v2⟩ kN
    have fin : ∀ (r : Addr), At5 K H2 r (st x i) → N (.ref r) H2 := fun r hr => by
      refine kN (.ref r) H2 a2 ⟨qs ++ [r], same_upd S2 hacc, upd_same, by rw [List.map_append]; rfl, by simp [ql], ?_⟩
      have := vals_upd (ys := qs.map V.ref ++ [.ref r]) (xs := qs.map V.ref) (vals_push v2 (Same.refl _) hr) a2
      intro j p hj
      have q := this j p hj
      have e : (if j = qs.length then st x i else st x j) = st x j := by
        by_cases e : j = qs.length
        · rw [if_pos e, e, ql]
        · rw [if_neg e]
      rw [← e]
      exact q
    refine ⟨_, rfl, _, rfl, rfl, _, rfl, eqI (fun e => fin aO ?_) (fun e => fin aZ ?_)⟩
    · have : st x i = ((1, 0, 0, 0), 0) := by unfold st; rw [if_pos (by omega)]
      rw [this]; exact kO _
    · have : st x i = ((0, 0, 0, 0), 0) := by unfold st; rw [if_neg (by omega)]
      rw [this]; exact kZ _
  · rintro ys H2 hy ⟨qs, S2, a2, rfl, ql, v2⟩
    exact kq acc H2 qs hacc S2 ⟨a2, ql, v2, fun i _ => st_ok x i⟩
end
end K36

set_option maxHeartbeats 4000000
namespace K36
open PySem PySem.Spec PyProof.Rows L2 Am Pc Ba
open Pt hiding kit_tt
theorem kept5 {K : PySem.W.Frag} {a : Addr} {od : Option Addr} {sl : Array (Option Value)} {n : Nat} {v1 v2 v3 v4 v5 : Int} {t1 t2 t3 t4 t5 : Tok} (h : K.lookup a = some ⟨.type "tuple", od, .seq #[.int v1 t1, .int v2 t2, .int v3 t3, .int v4 t4, .int v5 t5] n, sl⟩) (H : Hp) : At5 K H a ((v1, v2, v3, v4), v5) :=
  .inr ⟨_, _, _, h, rfl, rfl, (show 5 ≤ sizeLine by decide), .cons ⟨_, rfl⟩ (.cons ⟨_, rfl⟩ (.cons ⟨_, rfl⟩ (.cons ⟨_, rfl⟩ (.cons ⟨_, rfl⟩ .nil))))⟩
theorem cut_ints (ns : List Int) (lo hi : Option Int) : ∃ ms : List Int, cutV (ns.map V.int) lo hi = ms.map V.int ∧ ms.length ≤ ns.length := by
  unfold cutV
  refine ⟨_, by rw [← List.map_drop, ← List.map_take], ?_⟩
  rw [List.length_take, List.length_drop]
  omega
theorem cut_win {xs : List V} {p q : Nat} (hp : p ≤ xs.length) (hq : q ≤ xs.length) : cutV xs (some (p : Int)) (some (q : Int)) = (xs.drop p).take (q - p) := by
  unfold cutV
  rw [HT.sIx_nat, HT.sIx_nat, Nat.min_eq_left hp, Nat.min_eq_left hq]
theorem szm40 (x : Int) : Sz 140 (x % (10 ^ (40 : Int).toNat)) := by
  have p : (0 : Int) < 10 ^ (40 : Int).toNat := by decide +kernel
  have a := Int.emod_nonneg x (Int.ne_of_gt p)
  have b := Int.emod_lt_of_pos x p
  have d : (10 ^ (40 : Int).toNat : Int) < 2 ^ 140 := by decide +kernel
  unfold Sz
  have e : (((x % (10 ^ (40 : Int).toNat)).natAbs : Nat) : Int) < ((2 ^ 140 : Nat) : Int) := by
    rw [Int.natAbs_of_nonneg a]
    exact Int.lt_trans b (by simpa using d)
  exact Int.ofNat_lt.mp e
theorem Mvs.app {H : Hp} {qs : List Addr} {ns : List Gm} (b : Mvs H qs ns) : ∀ {ps : List Addr} {ms : List Gm}, Mvs H ps ms → Mvs H (ps ++ qs) (ms ++ ns)
  | [], [], _ => b
  | p :: ps, m :: ms, .cons a r => .cons a (Mvs.app b (ps := ps) (ms := ms) r)
theorem Mvs.take {H : Hp} : ∀ {ps : List Addr} {ms : List Gm} (i : Nat), Mvs H ps ms → Mvs H (ps.take i) (ms.take i)
  | _, _, 0, _ => .nil
  | [], [], i + 1, _ => .nil
  | p :: ps, m :: ms, i + 1, .cons a r => .cons a (Mvs.take (ps := ps) (ms := ms) i r)
theorem Mvs.drop {H : Hp} : ∀ {ps : List Addr} {ms : List Gm} (i : Nat), Mvs H ps ms → Mvs H (ps.drop i) (ms.drop i)
  | _, _, 0, h => by rw [List.drop_zero, List.drop_zero]; exact h
  | [], [], i + 1, _ => .nil
  | p :: ps, m :: ms, i + 1, .cons a r => Mvs.drop (ps := ps) (ms := ms) i r
theorem pair_is {H : Hp} {t u : Addr} {d : Nat} {bM bC : Bool} (h1 : H t = some (.tup [.bl bM, .bl bC])) (h2 : H u = some (.tup [.bl (decide (V.int (d : Nat) = V.int 1)), .bl (decide (V.int (d : Nat) = V.int 2))])) (e1 : bM = decide (V.int (d : Nat) = V.int 1)) (e2 : bC = decide (V.int (d : Nat) = V.int 2)) :
    ∃ x : PyData, RdV H (.ref t) x ∧ RdV H (.ref u) x := by
  subst e1 e2
  exact ⟨_, .tup h1 (.cons (.bl _) (.cons (.bl _) .nil)), .tup h2 (.cons (.bl _) (.cons (.bl _) .nil))⟩
abbrev NF (K : PySem.W.Frag) : BadP := fun H _ v => NoForm K H v
theorem rest_len {xs ys : List V} {v : V} {n : Nat} (h : (xs ++ v :: ys).length ≤ n) : ys.length ≤ n := by
  rw [List.length_append, List.length_cons] at h
  omega
section
variable {P : Program} {w : World} {K : PySem.W.Frag} {mg : Str → Option Value} {base : Heap} {k : Nat} {h : Heap}
theorem sc_law : FnScope ["_law_script", "_law_cells", "_law_board", "_law_thing", "_law_other", "_law_row", "_law_at", "_law_behind", "_law_kept", "_law_due", "_law_way"] ["_law_script"] (defScope (top 53)) := ⟨rfl, rfl, rfl, by decide +kernel, rfl, by decide +kernel, by decide +kernel⟩
theorem ok_law {n : Nat} (hn : n ≤ 63) {f : Addr} {fd : FuncData} (F : Fun K "law" "law" (top 53) f fd) (B : Bs mg) (c__law_cell_at : Cal P w K mg base k "_law_cell_at" ["_law_script", "_law_k"] (spCell K)) (c_start : Cal P w K mg base k "start" ["cells", "word"] (spStart K)) (c__law_thing_by : Cal P w K mg base k "_law_thing_by" ["_law_cell", "_law_cells", "_law_far"] (spThing K))
    (c__law_move_by : Cal P w K mg base k "_law_move_by" ["_law_cell", "_law_cells"] spMoveBy) (c__law_judged : Cal P w K mg base k "_law_judged" ["_law_thing", "_law_cells"] (spJudged K)) (c__law_told_move : Cal P w K mg base k "_law_told_move" ["_law_found", "_law_thing"] spTold) (c_check_move : Cal P w K mg base k "check_move" ["move", "cells"] spCheck)
    (r_M : Cal P w K mg base k "_law_refused" ["_law_way", "_law_thing", "_law_board", "_law_row"] (spRefX K (NF K) true false)) (r_C : Cal P w K mg base k "_law_refused" ["_law_way", "_law_thing", "_law_board", "_law_row"] (spRefX K BadAt false true)) (r_G : Cal P w K mg base k "_law_refused" ["_law_way", "_law_thing", "_law_board", "_law_row"] (spRefG K)) :
    FnOk P w K mg base CX0 (k + 1) f fd ["_law_script"] (spLaw K n) := by
  have nd := sc_law.nd
  refine F.ok sc_law (fun vs H Q E h => ?_) (fun cdv A outer s H vs Q E hr h => ?_)
  · obtain ⟨a, ns, rfl, _⟩ := h; rfl
  obtain ⟨sa, ns, rfl, hS, h63, lt, kk⟩ := h
  refine ⟨_, (@pss_cut _ _ _ _ _ (@ps_set _ _ 1 _ _ _ _ nd rfl (Or.inr rfl) (pe_op op_add pe_int (pe_op op_mod (pe_cal c__law_cell_at hr rfl (pa_cons (pv 0) (pa_cons pe_int pa_nil))) pe_int)) rfl (.inl rfl))
    (@pss_cons _ _ _ _ _ (@ps_set _ _ 2 _ _ _ _ nd rfl (Or.inl rfl) (pe_cal c_start hr rfl (pa_cons (pv 1) (pa_cons (pe_op op_mod (pe_cal c__law_cell_at hr rfl (pa_cons (pv 0) (pa_cons pe_int pa_nil))) (pe_op op_shlS pe_int (pv 1))) pa_nil))) rfl (.inl rfl))
    (@pss_cons _ _ _ _ _ (@ps_set _ _ 3 _ _ _ _ nd rfl (Or.inl rfl) (pe_cal c__law_thing_by hr rfl (pa_cons (pe_cal c__law_cell_at hr rfl (pa_cons (pv 0) (pa_cons pe_int pa_nil))) (pa_cons (pv 1) (pa_cons (pe_op op_mod (pe_cal c__law_cell_at hr rfl (pa_cons (pv 0) (pa_cons pe_int pa_nil))) (pe_op op_pow pe_int pe_int)) pa_nil)))) rfl (.inl rfl))
    (@pss_cons _ _ _ _ _ (@ps_set _ _ 4 _ _ _ _ nd rfl (Or.inl rfl) (pe_cal c__law_thing_by hr rfl (pa_cons (pe_cal c__law_cell_at hr rfl (pa_cons (pv 0) (pa_cons pe_int pa_nil))) (pa_cons (pv 1) (pa_cons (pe_op op_mod (pe_cal c__law_cell_at hr rfl (pa_cons (pv 0) (pa_cons pe_int pa_nil))) (pe_op op_pow pe_int pe_int)) pa_nil)))) rfl (.inl rfl))
    (@pss_cons _ _ _ _ _ (ps_setLc (i := 5) rfl nd rfl rfl (LcOk.of (Nc := ["_law_cell", "_law_cells"]) (mp := [none, some 1]) (by kernel_rfl)) (pi_list (pe_slice sl_list (pv 0) (po_some pe_int) (po_some pe_int))) (fun _ _ _ _ => (pg_name (i := 0) (show (["_law_cell", "_law_cells"] : List Str).Nodup by decide +kernel) rfl (Or.inl rfl))) (fun _ _ _ _ => (pe_cal c__law_move_by hr rfl (pa_cons (pv 0) (pa_cons (pv 1) pa_nil)))) rfl)
    (@pss_cut _ _ _ _ _ (@ps_set _ _ 6 _ _ _ _ nd rfl (Or.inl rfl) (pe_op op_mod (pe_cal c__law_cell_at hr rfl (pa_cons (pv 0) (pa_cons pe_int pa_nil))) (pe_op op_add (pe_callB call_len_seq rfl B.len PySem.boot_len (pa_cons (pv 5) pa_nil)) pe_int)) rfl (.inl rfl))
    (@pss_cut _ _ _ _ _ (@ps_set _ _ 7 _ _ _ _ nd rfl (Or.inl rfl) (pe_op op_add (pv 6) (pe_op op_mod (pe_cal c__law_cell_at hr rfl (pa_cons (pv 0) (pa_cons pe_int pa_nil))) (pe_op op_sub (pe_op op_add (pe_callB call_len_seq rfl B.len PySem.boot_len (pa_cons (pv 5) pa_nil)) pe_int) (pv 6)))) rfl (.inl rfl))
    (@pss_cons _ _ _ _ _ (@ps_set _ _ 5 _ _ _ _ nd rfl (Or.inl rfl) (pe_op op_cat (pe_op op_cat (pe_op op_cat (pe_op op_cat (pe_slice sl_list (pv 5) po_none (po_some (pv 6))) (@pe_lst _ _ _ _ (pa_cons (pv 3) pa_nil))) (pe_slice sl_list (pv 5) (po_some (pv 6)) (po_some (pv 7)))) (@pe_lst _ _ _ _ (pa_cons (pv 4) pa_nil))) (pe_slice sl_list (pv 5) (po_some (pv 7)) po_none)) rfl (.inl rfl))
    (@pss_cons _ _ _ _ _ (@ps_set _ _ 8 _ _ _ _ nd rfl (Or.inl rfl) (@pe_lst _ _ _ _ (pa_cons (pe_callTy call_list_of rfl B.list boot_list (pa_cons (pv 2) pa_nil)) (pa_cons (pe_callTy call_list_of rfl B.list boot_list (pa_cons (pv 5) pa_nil)) pa_nil))) rfl (.inl rfl))
    (@pss_cons _ _ _ _ _ (@ps_set _ _ 9 _ _ _ _ nd rfl (Or.inl rfl) (pe_cal c__law_judged hr rfl (pa_cons (pv 3) (pa_cons (pv 1) pa_nil))) rfl (.inl rfl))
    (@pss_cons _ _ _ _ _ (ps_for PassesOwn.never rfl (pi_range1 rfl B.range (pa_cons pe_int pa_nil)) (pg_name (i := 10) nd rfl (Or.inl rfl))
      (@pss_one _ _ _ (ps_if (pt_cmpR (op_neRd hr.units) (pe_alt (pe_cal r_M hr rfl (pa_cons (pv 10) (pa_cons (pv 3) (pa_cons (pv 2) (pa_cons (pv 5) pa_nil))))) (pe_alt (pe_cal r_C hr rfl (pa_cons (pv 10) (pa_cons (pv 3) (pa_cons (pv 2) (pa_cons (pv 5) pa_nil))))) (pe_cal r_G hr rfl (pa_cons (pv 10) (pa_cons (pv 3) (pa_cons (pv 2) (pa_cons (pv 5) pa_nil))))))) (@pe_tup _ _ _ _ _ (pa_cons (pe_cmpR op_eq (pv 9) pe_int (nomark _)) (pa_cons (pe_cmpR op_eq (pv 9) pe_int (nomark _)) pa_nil))) (nomark _))
        (@pss_one _ _ _ (ps_ret pe_bl))
        pss_nil)))
    (@pss_cut _ _ _ _ _ (ps_if (PW.pt (pw_and (pt_cmpR op_eq (pv 9) pe_int (nomark _)) (pw_and1 (pt_not (pt_val (pe_cal c__law_told_move hr rfl (pa_cons (pe_cal c_check_move hr rfl (pa_cons (pv 3) (pa_cons (pv 1) pa_nil))) (pa_cons (pv 3) pa_nil))))))))
      (@pss_one _ _ _ (ps_ret pe_bl))
      pss_nil)
    (@pss_cut _ _ _ _ _ (ps_if (pt_cmpR op_eq (pv 9) pe_int (nomark _))
      (@pss_one _ _ _ (@ps_set _ _ 9 _ _ _ _ nd rfl (Or.inl rfl) (pe_cal c__law_judged hr rfl (pa_cons (pv 4) (pa_cons (pv 1) pa_nil))) rfl (.inl rfl)))
      pss_nil)
    (@pss_cut _ _ _ _ _ (ps_if (pt_cmpR (op_neRd hr.units) (pe_alt (pe_cal r_M hr rfl (pa_cons pe_int (pa_cons (pv 3) (pa_cons (pv 2) (pa_cons (pv 5) pa_nil))))) (pe_alt (pe_cal r_C hr rfl (pa_cons pe_int (pa_cons (pv 3) (pa_cons (pv 2) (pa_cons (pv 5) pa_nil))))) (pe_cal r_G hr rfl (pa_cons pe_int (pa_cons (pv 3) (pa_cons (pv 2) (pa_cons (pv 5) pa_nil))))))) (@pe_tup _ _ _ _ _ (pa_cons (pe_cmpR op_eq (pv 9) pe_int (nomark _)) (pa_cons (pe_cmpR op_eq (pv 9) pe_int (nomark _)) pa_nil))) (nomark _))
      (@pss_one _ _ _ (ps_ret pe_bl))
      pss_nil)
    (@pss_one _ _ _ (ps_ret (pe_and (pe_cmpR (op_eqOwn hr.units) (pv 2) (pe_ix ix_list (pv 8) pe_int (fun _ _ => rfl)) (nomark _)) (pe_one (pe_cmpR (op_eqOwn hr.units) (pv 5) (pe_ix ix_list (pv 8) pe_int (fun _ _ => rfl)) (nomark _)))))))))))))))))))), ?_⟩
  try dsimp only [cxK]
  refine ⟨fun σ H' => H' = H ∧ ∃ c : Nat, 1 ≤ c ∧ c ≤ 6 ∧ σ = [some (.ref sa), some (.int c), none, none, none, none, none, none, none, none, none], ?_, ?_⟩
  · have e0 := Int.emod_nonneg (cell ns 0) (show (6 : Int) ≠ 0 by decide)
    have e1 := Int.emod_lt_of_pos (cell ns 0) (show (0 : Int) < 6 by decide)
    refine ⟨_, rfl, sa, ns, _, rfl, hS, by omega, _, _, rfl, rfl, (by decide : (0 : Int) < 6), _, _, rfl, rfl, rfl, (1 + cell ns 0 % 6).toNat, by omega, by omega, ?_⟩
    rw [show (((1 + cell ns 0 % 6).toNat : Nat) : Int) = 1 + cell ns 0 % 6 by omega]
    rfl
  rintro σ1 H1 ⟨rfl, c, c1, c6, rfl⟩
  have p6 := pow6 c6
  have hN : (1 : Int) * 2 ^ ((c : Int).toNat) = ((2 ^ c : Nat) : Int) := ipow c
  have pp : (0 : Int) < ((2 ^ c : Nat) : Int) := by have := Nat.two_pow_pos c; omega
  obtain ⟨x, xc, ex⟩ := modn (cell ns 1) (Nat.two_pow_pos c)
  refine ⟨_, rfl, _, rfl, sa, ns, 1, rfl, hS, by decide, _, rfl, _, _, rfl, rfl, ⟨1, sz1, by omega, by omega⟩, _, _, rfl, rfl, (by rw [hN]; exact pp), c, x, (by show [V.int (c : Nat), V.int (cell ns 1 % (1 * 2 ^ ((c : Int).toNat)))] = _; rw [hN, ex]), c1, c6, xc, fun lb H2 qs hlb S2 B2 => ?_⟩
  have p40 : (0 : Int) < 10 ^ (40 : Int).toNat := by decide +kernel
  refine ⟨_, rfl, sa, ns, 2, rfl, S2.seq hS, by decide, _, rfl, _, rfl, sa, ns, 3, rfl, S2.seq hS, by decide, _, _, rfl, rfl, ⟨by decide, by decide, by decide⟩, _, _, rfl, rfl, p40, _, c, _, rfl, c1, c6, Int.emod_nonneg _ (Int.ne_of_gt p40), szm40 _, fun v H3 d S3 VD ow => ?_⟩
  have S03 := S2.trans S3
  refine ⟨_, rfl, sa, ns, 4, rfl, S03.seq hS, by decide, _, rfl, _, rfl, sa, ns, 5, rfl, S03.seq hS, by decide, _, _, rfl, rfl, ⟨by decide, by decide, by decide⟩, _, _, rfl, rfl, p40, _, c, _, rfl, c1, c6, Int.emod_nonneg _ (Int.ne_of_gt p40), szm40 _, fun u H4 d' S4 VU ou => ?_⟩
  have S04 := S03.trans S4
  obtain ⟨dr, edr, ldr⟩ := cut_ints ns (some 8) (some 28)
  refine ⟨_, rfl, _, rfl, _, rfl, sa, _, rfl, S04.seq hS, fun cp hcp => ?_⟩
  rw [edr]
  have s5 := same_new hcp (.lst (dr.map V.int))
  have SC : SqL K (upd H4 cp (.lst (dr.map V.int))) cp (dr.map V.int) := SqL.of upd_same
  generalize upd H4 cp (.lst (dr.map V.int)) = H5 at s5 SC ⊢
  refine ⟨cp, rfl, ⟨_, SC⟩, fun acc hacc => ?_⟩
  refine lc_list (K := K) (a := cp) (xs := dr.map V.int) (fun i ys H' => ∃ (rp : List Addr) (ms : List Gm), Same H5 H' ∧ H' acc = some (.lst ys) ∧ ys = rp.map V.ref ∧ ms.length = i ∧ Mvs H' rp ms ∧ ∀ m ∈ ms, m.Ok c) (t64 (by rw [List.length_map]; omega))
    ⟨[], [], same_new hacc _, upd_same, rfl, rfl, .nil, (by simp)⟩ (fun i ys H' ⟨_, _, S, _⟩ => S.seq SC) ?_ ?_
  · rintro i y ys H6 N hy hl ⟨rp, ms, S6, a6, rfl, ml, M6, O6⟩ kN
    rw [List.getElem?_map] at hy
    obtain ⟨cl, hcl, rfl⟩ := Option.map_eq_some_iff.mp hy
    refine ⟨_, rfl, _, rfl, cl, c, rfl, c1, c6, fun r H7 nm ns2 S7 hr7 kinds => ?_⟩
    obtain ⟨m, okm, e1, e2⟩ := gm_of kinds
    subst e1 e2
    refine kN (.ref r) H7 (S7 _ _ a6) ⟨rp ++ [r], ms ++ [m], same_upd (S6.trans S7) hacc, upd_same, by rw [List.map_append]; rfl, by simp [ml], Mvs.upd (Mvs.snoc (M6.same S7) hr7) (S7 _ _ a6), fun y hy => ?_⟩
    rcases List.mem_append.mp hy with q | q
    · exact O6 y q
    · rw [List.mem_singleton.mp q]; exact okm
  rintro ys H6 hy ⟨rp, ms, S6, a6, rfl, ml, M6, O6⟩
  rw [List.length_map] at ml hy
  have lrp : rp.length = ms.length := M6.length
  have S46 := s5.trans S6
  have S06 := S04.trans S46
  have lrow : (rp.map V.ref).length = ms.length := by rw [List.length_map, lrp]
  have m63 : ms.length ≤ 63 := by omega
  refine ⟨fun σ H' => H' = H6 ∧ ∃ at_ : Nat, at_ ≤ ms.length ∧ σ = [some (.ref sa), some (.int c), some (.ref lb), some v, some u, some (.ref acc), some (.int (at_ : Nat)), none, none, none, none], ?_, ?_⟩
  · obtain ⟨j, hj, ej⟩ := modn (cell ns 6) (show 0 < ms.length + 1 by omega)
    refine ⟨_, rfl, sa, ns, 6, rfl, S06.seq hS, by decide, _, rfl, acc, _, rfl, .inl (SqL.of a6), _, _, rfl, rfl, _, _, rfl, rfl, (by show (0 : Int) < (((rp.map V.ref).length : Nat) : Int) + 1; omega), rfl, j, by omega, ?_⟩
    rw [← ej, lrow]
    rfl
  rintro σ6 H6' ⟨rfl, at_, hat, rfl⟩
  refine ⟨fun σ H' => H' = H6' ∧ ∃ bh : Nat, at_ ≤ bh ∧ bh ≤ ms.length ∧ σ = [some (.ref sa), some (.int c), some (.ref lb), some v, some u, some (.ref acc), some (.int (at_ : Nat)), some (.int (bh : Nat)), none, none, none], ?_, ?_⟩
  · obtain ⟨j, hj, ej⟩ := modn (cell ns 7) (show 0 < ms.length + 1 - at_ by omega)
    have ez : (((rp.map V.ref).length : Nat) : Int) + 1 - (at_ : Int) = ((ms.length + 1 - at_ : Nat) : Int) := by rw [lrow]; omega
    refine ⟨_, rfl, _, rfl, sa, ns, 7, rfl, S06.seq hS, by decide, _, rfl, acc, _, rfl, .inl (SqL.of a6), _, _, rfl, rfl, _, rfl, _, _, rfl, rfl, _, _, rfl, rfl, (by show (0 : Int) < (((rp.map V.ref).length : Nat) : Int) + 1 - (at_ : Int); omega), _, _, rfl, rfl, rfl, at_ + j, by omega, by omega, ?_⟩
    show [some (V.ref sa), some (V.int c), some (V.ref lb), some v, some u, some (V.ref acc), some (V.int (at_ : Nat)), some (V.int ((at_ : Int) + cell ns 7 % ((((rp.map V.ref).length : Nat) : Int) + 1 - (at_ : Int)))), none, none, none] = _
    rw [ez, ej, show (at_ : Int) + (j : Int) = ((at_ + j : Nat) : Int) by omega]
  rintro σ7 H7 ⟨rfl, bh, hab, hbh, rfl⟩
  -- the row
  generalize hX : rp.map V.ref = X at *
  have big : ∀ m : Nat, m ≤ 400 → m ≤ sizeLine := fun m h => Nat.le_trans h (by decide)
  refine ⟨_, rfl, _, rfl, _, rfl, acc, _, rfl, SqL.of a6, fun x1 h1 => ?_⟩
  rw [cut_to rfl]
  have s1 := same_new h1 (.lst (X.take at_))
  have e1 : upd H7 x1 (.lst (X.take at_)) x1 = some (.lst (X.take at_)) := upd_same
  generalize upd H7 x1 (.lst (X.take at_)) = Ha at s1 e1 ⊢
  refine ⟨_, rfl, z1l, fun x2 h2 => ?_⟩
  have s2 := same_new h2 (.lst [v])
  have e2 : upd Ha x2 (.lst [v]) x2 = some (.lst [v]) := upd_same
  generalize upd Ha x2 (.lst [v]) = Hb at s2 e2 ⊢
  refine ⟨x1, x2, _, _, rfl, rfl, s2 _ _ e1, e2, big _ (by rw [List.length_take]; simp; omega), fun x3 h3 => ?_⟩
  have s3 := same_new h3 (.lst (X.take at_ ++ [v]))
  have e3 : upd Hb x3 (.lst (X.take at_ ++ [v])) x3 = some (.lst (X.take at_ ++ [v])) := upd_same
  generalize upd Hb x3 (.lst (X.take at_ ++ [v])) = Hc at s3 e3 ⊢
  have S7c := s1.trans (s2.trans s3)
  refine ⟨_, rfl, _, rfl, _, rfl, _, rfl, _, rfl, acc, _, rfl, SqL.of (S7c _ _ a6), fun x4 h4 => ?_⟩
  rw [cut_win (by omega) (by omega)]
  have s4 := same_new h4 (.lst ((X.drop at_).take (bh - at_)))
  have e4 : upd Hc x4 (.lst ((X.drop at_).take (bh - at_))) x4 = some (.lst ((X.drop at_).take (bh - at_))) := upd_same
  generalize upd Hc x4 (.lst ((X.drop at_).take (bh - at_))) = Hd at s4 e4 ⊢
  have lm : ((X.drop at_).take (bh - at_)).length ≤ 63 := by rw [List.length_take]; omega
  have lt1 : (X.take at_).length ≤ 63 := by rw [List.length_take]; omega
  refine ⟨x3, x4, _, _, rfl, rfl, s4 _ _ e3, e4, big _ (by rw [List.length_append, List.length_singleton]; omega), fun x5 h5 => ?_⟩
  have s6 := same_new h5 (.lst (X.take at_ ++ [v] ++ (X.drop at_).take (bh - at_)))
  have e6 : upd Hd x5 (.lst (X.take at_ ++ [v] ++ (X.drop at_).take (bh - at_))) x5 = some (.lst (X.take at_ ++ [v] ++ (X.drop at_).take (bh - at_))) := upd_same
  generalize upd Hd x5 (.lst (X.take at_ ++ [v] ++ (X.drop at_).take (bh - at_))) = He at s6 e6 ⊢
  refine ⟨_, rfl, z1l, fun x6 h6 => ?_⟩
  have s7 := same_new h6 (.lst [u])
  have e7 : upd He x6 (.lst [u]) x6 = some (.lst [u]) := upd_same
  generalize upd He x6 (.lst [u]) = Hf at s7 e7 ⊢
  refine ⟨x5, x6, _, _, rfl, rfl, s7 _ _ e6, e7, big _ (by simp only [List.length_append, List.length_singleton]; omega), fun x7 h7 => ?_⟩
  have s8 := same_new h7 (.lst (X.take at_ ++ [v] ++ (X.drop at_).take (bh - at_) ++ [u]))
  have e8 : upd Hf x7 (.lst (X.take at_ ++ [v] ++ (X.drop at_).take (bh - at_) ++ [u])) x7 = some (.lst (X.take at_ ++ [v] ++ (X.drop at_).take (bh - at_) ++ [u])) := upd_same
  generalize upd Hf x7 (.lst (X.take at_ ++ [v] ++ (X.drop at_).take (bh - at_) ++ [u])) = Hg at s8 e8 ⊢
  have S7g := S7c.trans (s4.trans (s6.trans (s7.trans s8)))
  refine ⟨_, rfl, _, rfl, _, rfl, acc, _, rfl, SqL.of (S7g _ _ a6), fun x8 h8 => ?_⟩
  rw [cut_from rfl]
  have s9 := same_new h8 (.lst (X.drop bh))
  have e9 : upd Hg x8 (.lst (X.drop bh)) x8 = some (.lst (X.drop bh)) := upd_same
  generalize upd Hg x8 (.lst (X.drop bh)) = Hh at s9 e9 ⊢
  have ld : (X.drop bh).length ≤ 63 := by rw [List.length_drop]; omega
  refine ⟨x7, x8, _, _, rfl, rfl, s9 _ _ e8, e9, big _ (by simp only [List.length_append, List.length_singleton]; omega), fun lr h9 => ?_⟩
  have s10 := same_new h9 (.lst (X.take at_ ++ [v] ++ (X.drop at_).take (bh - at_) ++ [u] ++ X.drop bh))
  have e10 : upd Hh lr (.lst (X.take at_ ++ [v] ++ (X.drop at_).take (bh - at_) ++ [u] ++ X.drop bh)) lr = some (.lst (X.take at_ ++ [v] ++ (X.drop at_).take (bh - at_) ++ [u] ++ X.drop bh)) := upd_same
  generalize upd Hh lr (.lst (X.take at_ ++ [v] ++ (X.drop at_).take (bh - at_) ++ [u] ++ X.drop bh)) = Hi at s10 e10 ⊢
  have lY : (X.take at_ ++ [v] ++ (X.drop at_).take (bh - at_) ++ [u] ++ X.drop bh).length ≤ 200 := by simp only [List.length_append, List.length_singleton]; omega
  have ownX : ∀ y ∈ X, ownV y := fun y hy => by rw [← hX] at hy; obtain ⟨p, _, rfl⟩ := List.mem_map.mp hy; exact .inr ⟨p, rfl⟩
  have ownY : ∀ y ∈ X.take at_ ++ [v] ++ (X.drop at_).take (bh - at_) ++ [u] ++ X.drop bh, ownV y := fun y hy => by
    simp only [List.mem_append, List.mem_singleton] at hy
    rcases hy with (((hy | rfl) | hy) | rfl) | hy
    · exact ownX y (List.mem_of_mem_take hy)
    · exact ow
    · exact ownX y (List.mem_of_mem_drop (List.mem_of_mem_take hy))
    · exact ou
    · exact ownX y (List.mem_of_mem_drop hy)
  have r1 : X.take at_ ++ [v] ++ (X.drop at_).take (bh - at_) ++ [u] ++ X.drop bh = (rp.take at_).map V.ref ++ v :: ((X.drop at_).take (bh - at_) ++ [u] ++ X.drop bh) := by rw [← hX, List.map_take]; simp
  have r2 : ∀ p, v = .ref p → X.take at_ ++ [v] ++ (X.drop at_).take (bh - at_) ++ [u] ++ X.drop bh = (rp.take at_ ++ [p] ++ (rp.drop at_).take (bh - at_)).map V.ref ++ u :: X.drop bh := fun p e => by rw [← hX, e]; simp [List.map_take, List.map_drop]
  have r3 : ∀ p q, v = .ref p → u = .ref q → X.take at_ ++ [v] ++ (X.drop at_).take (bh - at_) ++ [u] ++ X.drop bh = (rp.take at_ ++ [p] ++ (rp.drop at_).take (bh - at_) ++ [q] ++ rp.drop bh).map V.ref := fun p q e e' => by rw [← hX, e, e']; simp [List.map_take, List.map_drop]
  generalize X.take at_ ++ [v] ++ (X.drop at_).take (bh - at_) ++ [u] ++ X.drop bh = Y at *
  have S7i := S7g.trans (s9.trans s10)
  have S3i := S4.trans (S46.trans S7i)
  have S4i := S46.trans S7i
  have S2i := S3.trans S3i
  -- kept
  have Bi := B2.same S2i
  refine ⟨_, rfl, lb, _, rfl, .inl (SqL.of Bi.lst), fun k1 hk1 => ?_⟩
  have t1 := same_new hk1 (.lst (qs.map V.ref))
  have f1 : upd Hi k1 (.lst (qs.map V.ref)) k1 = some (.lst (qs.map V.ref)) := upd_same
  generalize upd Hi k1 (.lst (qs.map V.ref)) = Hj at t1 f1 ⊢
  refine ⟨_, rfl, lr, _, rfl, .inl (SqL.of (t1 _ _ e10)), fun k2 hk2 => ?_⟩
  have t2' := same_new hk2 (.lst Y)
  have f2 : upd Hj k2 (.lst Y) k2 = some (.lst Y) := upd_same
  generalize upd Hj k2 (.lst Y) = Hk at t2' f2 ⊢
  refine ⟨z2l, fun kp hkp => ?_⟩
  have t3' := same_new hkp (.lst [.ref k1, .ref k2])
  have f3 : upd Hk kp (.lst [.ref k1, .ref k2]) kp = some (.lst [.ref k1, .ref k2]) := upd_same
  generalize upd Hk kp (.lst [.ref k1, .ref k2]) = Hl at t3' f3 ⊢
  have Til := t1.trans (t2'.trans t3')
  have el := Til _ _ e10
  have g1 := (t2'.trans t3') _ _ f1
  have g2 := t3' _ _ f2
  have Bl := Bi.same Til
  have VDl := VD.same (S3i.trans Til)
  have VUl := VU.same (S4i.trans Til)
  have Ml := M6.same (S7i.trans Til)
  clear e1 e2 e3 e4 e6 e7 e8 e9 e10 s1 s2 s3 s4 s6 s7 s8 s9 s10 h1 h2 h3 h4 h5 h6 h7 h8 h9
  refine ⟨_, rfl, _, rfl, v, c, d, rfl, VDl, fun Hm Sm => ?_⟩
  -- two ways
  refine ⟨2, rfl, by decide, by decide, for_range (n := 2) (fun i σ H' => Same Hl H' ∧ ∃ v10 : Option V, σ = [some (.ref sa), some (.int c), some (.ref lb), some v, some u, some (.ref lr), some (.int (at_ : Nat)), some (.int (bh : Nat)), some (.ref kp), some (.int (d : Nat)), v10]) ⟨Sm, none, rfl⟩ ?_ ?_⟩
  · rintro i σ H' i2 ⟨S', v10, rfl⟩
    have B' := Bl.same S'
    have V' := VDl.same S'
    have SB : SqL K H' lb (qs.map V.ref) := SqL.of B'.lst
    have lq : (qs.map V.ref).length = 2 ^ c := by rw [List.length_map, B'.len]
    have ei : [V.int (0 + (i : Int)), v, V.ref lb, V.ref lr] = [V.int ((i : Nat) : Int), v, V.ref lb, V.ref lr] := by rw [Int.zero_add]
    have go : ∀ (t : Addr) (H2 : Hp) (bM bC : Bool), Same H' H2 → H2 t = some (.tup [.bl bM, .bl bC]) → bM = decide (V.int (d : Nat) = V.int 1) → bC = decide (V.int (d : Nat) = V.int 2) → ∀ (u2 : Addr), H2 u2 = none → Same Hl (upd H2 u2 (.tup [.bl (decide (V.int (d : Nat) = V.int 1)), .bl (decide (V.int (d : Nat) = V.int 2))])) ∧ ∃ x : PyData, RdV (upd H2 u2 (.tup [.bl (decide (V.int (d : Nat) = V.int 1)), .bl (decide (V.int (d : Nat) = V.int 2))])) (.ref t) x ∧ RdV (upd H2 u2 (.tup [.bl (decide (V.int (d : Nat) = V.int 1)), .bl (decide (V.int (d : Nat) = V.int 2))])) (.ref u2) x := fun t H2 bM bC S2 ht e1 e2 u2 hu => ⟨S'.trans (S2.trans (same_new hu _)), pair_is (same_new hu _ _ _ ht) upd_same e1 e2⟩
    cases V' with
    | no NF' =>
      refine .inl ⟨_, rfl, _, rfl, _, rfl, _, rfl, .inl ⟨i, v, lb, lr, _, c, ei, i2, SB, lq, c6, NF'⟩, fun t H2 S2 ht => ⟨_, rfl, rfl, _, rfl, rfl, z2l, fun u2 hu => ?_⟩⟩
      obtain ⟨Sn, x, q1, q2⟩ := go t H2 true false S2 ht (by decide) (by decide) u2 hu
      exact ⟨x, q1, q2, _, rfl, iteF ⟨Sn, _, rfl⟩⟩
    | bad bd =>
      refine .inr (.inl ⟨_, rfl, _, rfl, _, rfl, _, rfl, .inl ⟨i, v, lb, lr, _, c, ei, i2, SB, lq, c6, bd⟩, fun t H2 S2 ht => ⟨_, rfl, rfl, _, rfl, rfl, z2l, fun u2 hu => ?_⟩⟩)
      obtain ⟨Sn, x, q1, q2⟩ := go t H2 false true S2 ht (by decide) (by decide) u2 hu
      exact ⟨x, q1, q2, _, rfl, iteF ⟨Sn, _, rfl⟩⟩
    | @fit p nm nn e FI =>
      obtain ⟨m, okm, e1, e2⟩ := fits_gm FI
      subst e1 e2
      refine .inr (.inr ⟨_, rfl, _, rfl, _, rfl, _, rfl, i, _, lb, lr, ei, ?_, fun t H2 S2 ht => ⟨_, rfl, rfl, _, rfl, rfl, z2l, fun u2 hu => ?_⟩⟩)
      · rcases (show i = 0 ∨ i = 1 by omega) with rfl | rfl
        · exact .inl ⟨rfl, p, _, _, _, c, rfl, e, FI, SB, lq, c6⟩
        · exact .inr (.inl ⟨rfl, p, qs, st x, c, 100, 40, m, rfl, e, okm, B', c6, by decide, by decide⟩)
      · obtain ⟨Sn, x, q1, q2⟩ := go t H2 false false S2 ht (by decide) (by decide) u2 hu
        exact ⟨x, q1, q2, _, rfl, iteF ⟨Sn, _, rfl⟩⟩
  rintro σ8 Hn ⟨Sn, v10, rfl⟩
  have VDn := VDl.same Sn
  have VUn := VUl.same Sn
  have Bn := Bl.same Sn
  refine ⟨fun σ H' => Same Hn H' ∧ σ = [some (.ref sa), some (.int c), some (.ref lb), some v, some u, some (.ref lr), some (.int (at_ : Nat)), some (.int (bh : Nat)), some (.ref kp), some (.int (d : Nat)), v10], ?_, ?_⟩
  · cases VDn with
    | no NF' => exact ⟨_, rfl, rfl, _, rfl, eqI (fun z => absurd z (by decide)) (fun _ => ⟨Same.refl _, rfl⟩)⟩
    | bad bd => exact ⟨_, rfl, rfl, _, rfl, eqI (fun z => absurd z (by decide)) (fun _ => ⟨Same.refl _, rfl⟩)⟩
    | @fit p nm nn e FI => exact ⟨_, rfl, rfl, _, rfl, eqI (fun _ => ⟨_, rfl, _, rfl, p, nm, nn, c, rfl, e, FI, fun Ho So => ⟨_, rfl, p, nm, nn, rfl, So _ _ e, FI.form, fun Hp Sp => ⟨_, rfl, iteF ⟨So.trans Sp, rfl⟩⟩⟩⟩) (fun z => absurd rfl z)⟩
  rintro σ9 Ho ⟨So, rfl⟩
  refine ⟨fun σ H' => Same Ho H' ∧ ∃ d2 : Nat, (d = 0 → d2 = d') ∧ (d ≠ 0 → d2 = d) ∧ σ = [some (.ref sa), some (.int c), some (.ref lb), some v, some u, some (.ref lr), some (.int (at_ : Nat)), some (.int (bh : Nat)), some (.ref kp), some (.int (d2 : Nat)), v10], ?_, ?_⟩
  · exact ⟨_, rfl, rfl, _, rfl, eqI (fun z => ⟨_, rfl, _, rfl, u, c, d', rfl, VUn.same So, fun Hp Sp => ⟨Sp, d', fun _ => rfl, fun q => absurd (by omega) q, rfl⟩⟩) (fun z => ⟨Same.refl _, d, fun q => absurd (by omega) z, fun _ => rfl, rfl⟩)⟩
  rintro σ10 HP ⟨Sp, d2, h0, h1, rfl⟩
  have Sop := So.trans Sp
  have VDp := VDn.same Sop
  have VUp := VUn.same Sop
  have Bp := Bn.same Sop
  have Mp := (Ml.same Sn).same Sop
  have ep := Sop _ _ (Sn _ _ el)
  have okt : ∀ i, ∀ m ∈ ms.take i, m.Ok c := fun i m hm => O6 m (List.mem_of_mem_take hm)
  refine ⟨fun σ H' => Same HP H' ∧ σ = [some (.ref sa), some (.int c), some (.ref lb), some v, some u, some (.ref lr), some (.int (at_ : Nat)), some (.int (bh : Nat)), some (.ref kp), some (.int (d2 : Nat)), v10], ?_, ?_⟩
  · have go : ∀ (t : Addr) (H2 : Hp) (bM bC : Bool), Same HP H2 → H2 t = some (.tup [.bl bM, .bl bC]) → bM = decide (V.int (d2 : Nat) = V.int 1) → bC = decide (V.int (d2 : Nat) = V.int 2) → ∀ (u2 : Addr), H2 u2 = none → Same HP (upd H2 u2 (.tup [.bl (decide (V.int (d2 : Nat) = V.int 1)), .bl (decide (V.int (d2 : Nat) = V.int 2))])) ∧ ∃ x : PyData, RdV (upd H2 u2 (.tup [.bl (decide (V.int (d2 : Nat) = V.int 1)), .bl (decide (V.int (d2 : Nat) = V.int 2))])) (.ref t) x ∧ RdV (upd H2 u2 (.tup [.bl (decide (V.int (d2 : Nat) = V.int 1)), .bl (decide (V.int (d2 : Nat) = V.int 2))])) (.ref u2) x := fun t H2 bM bC S2 ht e1 e2 u2 hu => ⟨S2.trans (same_new hu _), pair_is (same_new hu _ _ _ ht) upd_same e1 e2⟩
    have lt2 : (ms.take at_).length ≤ 200 := by rw [List.length_take]; omega
    cases VDp with
    | no NF' =>
      obtain rfl := h1 (by decide)
      rw [r1] at lY ep
      refine .inl ⟨_, rfl, _, rfl, _, rfl, .inr ⟨v, lb, lr, qs, rp.take at_, st x, c, 100, 40, ms.take at_, v, _, rfl, ep, rest_len lY, Mp.take at_, okt at_, lt2, Bp, c6, by decide, by decide, fun H' S => NF'.same S⟩, fun t H2 S2 ht => ⟨_, rfl, rfl, _, rfl, rfl, z2l, fun u2 hu => ?_⟩⟩
      obtain ⟨Sn, x, q1, q2⟩ := go t H2 true false S2 ht (by decide) (by decide) u2 hu
      exact ⟨x, q1, q2, _, rfl, iteF ⟨Sn, rfl⟩⟩
    | bad bd =>
      obtain rfl := h1 (by decide)
      rw [r1] at lY ep
      refine .inr (.inl ⟨_, rfl, _, rfl, _, rfl, .inr ⟨v, lb, lr, qs, rp.take at_, st x, c, 100, 40, ms.take at_, v, _, rfl, ep, rest_len lY, Mp.take at_, okt at_, lt2, Bp, c6, by decide, by decide, fun H' S => bd.same S⟩, fun t H2 S2 ht => ⟨_, rfl, rfl, _, rfl, rfl, z2l, fun u2 hu => ?_⟩⟩)
      obtain ⟨Sn, x, q1, q2⟩ := go t H2 false true S2 ht (by decide) (by decide) u2 hu
      exact ⟨x, q1, q2, _, rfl, iteF ⟨Sn, rfl⟩⟩
    | @fit p nm nn e FI =>
      obtain rfl := h0 rfl
      obtain ⟨m, okm, e1, e2⟩ := fits_gm FI
      subst e1 e2
      have M1 : Mvs HP (rp.take at_ ++ [p] ++ (rp.drop at_).take (bh - at_)) (ms.take at_ ++ [m] ++ (ms.drop at_).take (bh - at_)) := ((Mp.drop at_).take _).app (Mvs.snoc (Mp.take at_) e)
      have ok1 : ∀ y ∈ ms.take at_ ++ [m] ++ (ms.drop at_).take (bh - at_), y.Ok c := fun y hy => by
        simp only [List.mem_append, List.mem_singleton] at hy
        rcases hy with (hy | rfl) | hy
        · exact okt at_ y hy
        · exact okm
        · exact O6 y (List.mem_of_mem_drop (List.mem_of_mem_take hy))
      have l1 : (ms.take at_ ++ [m] ++ (ms.drop at_).take (bh - at_)).length ≤ 128 := by simp only [List.length_append, List.length_take, List.length_drop, List.length_singleton]; omega
      cases VUp with
      | no NU =>
        rw [r2 p rfl] at lY ep
        refine .inl ⟨_, rfl, _, rfl, _, rfl, .inr ⟨_, lb, lr, qs, _, st x, c, 100, 40, _, u, _, rfl, ep, rest_len lY, M1, ok1, by omega, Bp, c6, by decide, by decide, fun H' S => NU.same S⟩, fun t H2 S2 ht => ⟨_, rfl, rfl, _, rfl, rfl, z2l, fun u2 hu => ?_⟩⟩
        obtain ⟨Sn, x, q1, q2⟩ := go t H2 true false S2 ht (by decide) (by decide) u2 hu
        exact ⟨x, q1, q2, _, rfl, iteF ⟨Sn, rfl⟩⟩
      | bad bu =>
        rw [r2 p rfl] at lY ep
        refine .inr (.inl ⟨_, rfl, _, rfl, _, rfl, .inr ⟨_, lb, lr, qs, _, st x, c, 100, 40, _, u, _, rfl, ep, rest_len lY, M1, ok1, by omega, Bp, c6, by decide, by decide, fun H' S => bu.same S⟩, fun t H2 S2 ht => ⟨_, rfl, rfl, _, rfl, rfl, z2l, fun u2 hu => ?_⟩⟩)
        obtain ⟨Sn, x, q1, q2⟩ := go t H2 false true S2 ht (by decide) (by decide) u2 hu
        exact ⟨x, q1, q2, _, rfl, iteF ⟨Sn, rfl⟩⟩
      | @fit q nm nn eu FU =>
        obtain ⟨m', okm', e1, e2⟩ := fits_gm FU
        subst e1 e2
        rw [r3 p q rfl rfl] at ep
        have RWp : Rw HP lr (rp.take at_ ++ [p] ++ (rp.drop at_).take (bh - at_) ++ [q] ++ rp.drop bh) (ms.take at_ ++ [m] ++ (ms.drop at_).take (bh - at_) ++ [m'] ++ ms.drop bh) c := by
          refine ⟨ep, (Mp.drop bh).app (Mvs.snoc M1 eu), fun y hy => ?_, ?_⟩
          · rw [List.mem_append, List.mem_append, List.mem_singleton] at hy
            rcases hy with (hy | rfl) | hy
            · exact ok1 y hy
            · exact okm'
            · exact O6 y (List.mem_of_mem_drop hy)
          · rw [List.length_append, List.length_append, List.length_singleton, List.length_drop]; omega
        refine .inr (.inr ⟨_, rfl, _, rfl, _, rfl, 2, _, lb, lr, rfl, .inr (.inr ⟨rfl, qs, _, st x, c, 100, 40, _, RWp, Bp, c6, by decide, by decide⟩), fun t H2 S2 ht => ⟨_, rfl, rfl, _, rfl, rfl, z2l, fun u2 hu => ?_⟩⟩)
        obtain ⟨Sn, x, q1, q2⟩ := go t H2 false false S2 ht (by decide) (by decide) u2 hu
        exact ⟨x, q1, q2, _, rfl, iteF ⟨Sn, rfl⟩⟩
  rintro σ11 Hq ⟨Sq, rfl⟩
  have Slq := Sn.trans (Sop.trans Sq)
  have Bq := Bl.same Slq
  refine ⟨_, rfl, _, rfl, kp, _, _, .ref k1, rfl, rfl, SqL.of (Slq _ _ f3), rfl, lb, k1, _, rfl, rfl, SqL.of Bq.lst, SqL.of (Slq _ _ g1), (fun y hy => ?_), _, rfl, iteT ?_⟩
  · obtain ⟨p, _, rfl⟩ := List.mem_map.mp hy
    exact .inr ⟨p, rfl⟩
  exact ⟨_, rfl, _, rfl, kp, _, _, .ref k2, rfl, rfl, SqL.of (Slq _ _ f3), rfl, lr, k2, Y, rfl, rfl, SqL.of (Slq _ _ el), SqL.of (Slq _ _ g2), ownY, kk _⟩
end
end K36

noncomputable section
namespace K36
open PySem PySem.Spec PyProof.Rows L2 Ba
theorem all_mk {l : PySem.W.OpenLaw} {w : World} {K : PySem.W.Frag} {h : Heap} {mg : Str → Option Value} {fa f : Addr} (X : K.In h) (G : h.Ns mainGlobals mg) (hfa : mg "law" = some (.ref fa))
    {od an : Option Addr} {sl : Array (Option Value)} {oc kV dc pm cd ct : Value} {aN aO aZ Dd : Addr} {odO odZ odD : Option Addr} {slO slZ slD : Array (Option Value)} {ocD : Value} {nO nZ nD : Nat} {d0 o1 o2 o3 o4 o5 y1 y2 y3 y4 y5 : Tok} {nN : Nat} {a1 a2 a3 a4 a5 a6 a7 b1 b2 b3 b4 b5 b6 b7 tM : Tok} {D A_NeverSo A_NoAmount A_NoBoard A_NoMark A_NoShare A_NoTable A_NoText A_NotBorne A_Unguarded A_NoMove A_NoCell : Addr} {bm bm2 bm3 : List Value}
    (aL : PySem.W.nsIn K mainGlobals "law" = some (some (.ref f))) (lL : K.lookup f = some ⟨oc, od, .func (PySem.W.fnOf "law" "law" (defArgs (top 53)) (defBody (top 53)) (defScope (top 53)) .none kV dc pm an cd ct), sl⟩) (cL : PySem.W.codeIn K cd "law" = true) (kL : PySem.W.keepIn K (.ref f) = true)
    (t14 : FunAt K "is_whole" (top 14) .none)
    (t16 : FunAt K "halved_out" (top 16) .none)
    (t17 : FunAt K "plus" (top 17) .none)
    (t18 : FunAt K "minus" (top 18) .none)
    (t19 : FunAt K "spun" (top 19) .none)
    (t20 : FunAt K "spun_once" (top 20) .none)
    (t21 : FunAt K "rooted" (top 21) .none)
    (t23 : FunAt K "is_word" (top 23) .none)
    (t28 : FunAt K "start" (top 28) (.ref Dd))
    (t29 : FunAt K "check_beginning" (top 29) .none)
    (t30 : FunAt K "cells_of" (top 30) .none)
    (t33 : FunAt K "check_move" (top 33) .none)
    (t34 : FunAt K "has_move_form" (top 34) .none)
    (t35 : FunAt K "named_cells" (top 35) .none)
    (t36 : FunAt K "turned" (top 36) .none)
    (t37 : FunAt K "mixed" (top 37) .none)
    (t38 : FunAt K "mixed_at" (top 38) .none)
    (t39 : FunAt K "spun_where" (top 39) .none)
    (t40 : FunAt K "word_behind" (top 40) .none)
    (t41 : FunAt K "exchanged" (top 41) .none)
    (t43 : FunAt K "run" (top 43) .none)
    (t45 : FunAt K "_law_cell_at" (top 45) .none)
    (t46 : FunAt K "_law_whole" (top 46) .none)
    (t47 : FunAt K "_law_move_by" (top 47) .none)
    (t48 : FunAt K "_law_number_by" (top 48) .none)
    (t49 : FunAt K "_law_thing_by" (top 49) .none)
    (t50 : FunAt K "_law_judged" (top 50) .none)
    (t51 : FunAt K "_law_refused" (top 51) .none)
    (t52 : FunAt K "_law_told_move" (top 52) .none)
    (z0 : PySem.W.nsIn K mainGlobals "isinstance" = some none)
    (z1 : PySem.W.nsIn K mainGlobals "int" = some none)
    (z2 : PySem.W.nsIn K mainGlobals "bool" = some none)
    (z3 : PySem.W.nsIn K mainGlobals "tuple" = some none)
    (z4 : PySem.W.nsIn K mainGlobals "list" = some none)
    (z5 : PySem.W.nsIn K mainGlobals "len" = some none)
    (z6 : PySem.W.nsIn K mainGlobals "range" = some none)
    (z7 : PySem.W.nsIn K mainGlobals "all" = some none)
    (z8 : PySem.W.nsIn K mainGlobals "any" = some none)
    (z9 : PySem.W.nsIn K mainGlobals "max" = some none)
    (z10 : PySem.W.nsIn K mainGlobals "min" = some none)
    (z11 : PySem.W.nsIn K mainGlobals "zip" = some none)
    (z12 : PySem.W.nsIn K mainGlobals "set" = some none)
    (z13 : PySem.W.nsIn K mainGlobals "str" = some none)
    (z14 : PySem.W.nsIn K mainGlobals "enumerate" = some none)
    (z15 : PySem.W.nsIn K mainGlobals "reversed" = some none)
    (gM0 : PySem.W.nsIn K mainGlobals "MOST_CELLS" = some (some (.int 6 tM)))
    (tD : K.lookup Dd = some ⟨ocD, odD, .seq #[.int 0 d0] nD, slD⟩)
    (gO0 : PySem.W.nsIn K mainGlobals "ONE" = some (some (.ref aO)))
    (tO : K.lookup aO = some ⟨.type "tuple", odO, .seq #[.int 1 o1, .int 0 o2, .int 0 o3, .int 0 o4, .int 0 o5] nO, slO⟩)
    (gZ0 : PySem.W.nsIn K mainGlobals "NOUGHT" = some (some (.ref aZ)))
    (tZ : K.lookup aZ = some ⟨.type "tuple", odZ, .seq #[.int 0 y1, .int 0 y2, .int 0 y3, .int 0 y4, .int 0 y5] nZ, slZ⟩)
    (gN0 : PySem.W.nsIn K mainGlobals "NUMBERS_BEHIND" = some (some (.ref aN)))
    (tN : K.lookup aN = some ⟨.type "dict", none, .dict #[⟨PyData.keyHash w.params "flip", .str "flip" a1, .int 1 b1⟩, ⟨PyData.keyHash w.params "mix", .str "mix" a2, .int 1 b2⟩, ⟨PyData.keyHash w.params "turn", .str "turn" a3, .int 2 b3⟩, ⟨PyData.keyHash w.params "if", .str "if" a4, .int 2 b4⟩, ⟨PyData.keyHash w.params "pair", .str "pair" a5, .int 2 b5⟩, ⟨PyData.keyHash w.params "swap", .str "swap" a6, .int 2 b6⟩, ⟨PyData.keyHash w.params "cross", .str "cross" a7, .int 3 b7⟩] nN, #[]⟩)
    (nN0 : (aN == sysModules) = false)
    (aD : PySem.W.nsIn K mainGlobals "BoardError" = some (some (.ref D)))
    (zV : PySem.W.nsIn K mainGlobals "ValueError" = some none)
    (xC : ExcAt K A_NoMove bm)
    (yC : ExcAt K A_NoCell bm3)
    (xD : ExcAt K D bm2)
    (sub : (Value.ref A_NoMove :: bm).contains (.ref D) = true)
    (sub3 : (Value.ref A_NoCell :: bm3).contains (.ref D) = true)
    (kC : PySem.W.ExcG K A_NoMove)
    (kM : PySem.W.ExcG K A_NoCell)
    (ve : PySem.W.kitOne K (.ref A_NoMove) (.type "ValueError") = some true)
    (ve3 : PySem.W.kitOne K (.ref A_NoCell) (.type "ValueError") = some true)
    (k1 : PySem.W.kitAny K (.ref A_NoMove) [.ref A_NeverSo, .ref A_NoAmount, .ref A_NoBoard, .ref A_NoMark, .ref A_NoShare, .ref A_NoTable] = some false)
    (k2 : PySem.W.kitAny K (.ref A_NoMove) [.ref A_NoText, .ref A_NotBorne, .ref A_Unguarded] = some false)
    (j1 : PySem.W.kitAny K (.ref A_NoCell) [.ref A_NeverSo, .ref A_NoAmount, .ref A_NoBoard, .ref A_NoMark, .ref A_NoShare, .ref A_NoTable] = some false)
    (j2 : PySem.W.kitAny K (.ref A_NoCell) [.ref A_NoText, .ref A_NotBorne, .ref A_Unguarded] = some false)
    (mm : PySem.W.kitOne K (.ref A_NoMove) (.ref A_NoMove) = some true)
    (mc : PySem.W.kitOne K (.ref A_NoMove) (.ref A_NoCell) = some false)
    (cm : PySem.W.kitOne K (.ref A_NoCell) (.ref A_NoMove) = some false)
    (cc : PySem.W.kitOne K (.ref A_NoCell) (.ref A_NoCell) = some true)
    (n_NeverSo : PySem.W.nsIn K mainGlobals "NeverSo" = some (some (.ref A_NeverSo)))
    (n_NoAmount : PySem.W.nsIn K mainGlobals "NoAmount" = some (some (.ref A_NoAmount)))
    (n_NoBoard : PySem.W.nsIn K mainGlobals "NoBoard" = some (some (.ref A_NoBoard)))
    (n_NoMark : PySem.W.nsIn K mainGlobals "NoMark" = some (some (.ref A_NoMark)))
    (n_NoShare : PySem.W.nsIn K mainGlobals "NoShare" = some (some (.ref A_NoShare)))
    (n_NoTable : PySem.W.nsIn K mainGlobals "NoTable" = some (some (.ref A_NoTable)))
    (n_NoText : PySem.W.nsIn K mainGlobals "NoText" = some (some (.ref A_NoText)))
    (n_NotBorne : PySem.W.nsIn K mainGlobals "NotBorne" = some (some (.ref A_NotBorne)))
    (n_Unguarded : PySem.W.nsIn K mainGlobals "Unguarded" = some (some (.ref A_Unguarded)))
    (n_NoMove : PySem.W.nsIn K mainGlobals "NoMove" = some (some (.ref A_NoMove)))
    (n_NoCell : PySem.W.nsIn K mainGlobals "NoCell" = some (some (.ref A_NoCell)))
    : ∃ fd : FuncData, (∀ (s : Shared) (v : Value), BindsTo s fd ⟨[v], []⟩ [("_law_script", v)]) ∧ ∀ base : Heap, K.In base → base.Ns mainGlobals mg → FnOk l.prog w K mg base CX0 9 fa fd ["_law_script"] (spLaw K 63) := by
  have e := hfa.symm.trans (PySem.W.mg_of X G aL)
  cases e
  have F := fun_mk (st := top 53) lL cL kL
  have B : Bs mg := ⟨PySem.W.mg_none_of X G z0, PySem.W.mg_none_of X G z1, PySem.W.mg_none_of X G z2, PySem.W.mg_none_of X G z3, PySem.W.mg_none_of X G z4, PySem.W.mg_none_of X G z5, PySem.W.mg_none_of X G z6, PySem.W.mg_none_of X G z7, PySem.W.mg_none_of X G z8, PySem.W.mg_none_of X G z9, PySem.W.mg_none_of X G z10, PySem.W.mg_none_of X G z11, PySem.W.mg_none_of X G z12, PySem.W.mg_none_of X G z13, PySem.W.mg_none_of X G z14, PySem.W.mg_none_of X G z15⟩
  refine ⟨PySem.W.fnOf "law" "law" (defArgs (top 53)) (defBody (top 53)) (defScope (top 53)) .none kV dc pm an cd ct, fun s v => .of_eq rfl, fun base _ _ => ?_⟩
  have ex : Exs K mg A_NoMove D bm bm2 true false := ⟨PySem.W.mg_of X G aD, PySem.W.mg_none_of X G zV, xC, xD, sub, kC, ve, A_NeverSo, PySem.W.mg_of X G n_NeverSo, A_NoAmount, PySem.W.mg_of X G n_NoAmount, A_NoBoard, PySem.W.mg_of X G n_NoBoard, A_NoMark, PySem.W.mg_of X G n_NoMark, A_NoShare, PySem.W.mg_of X G n_NoShare, A_NoTable, PySem.W.mg_of X G n_NoTable, A_NoText, PySem.W.mg_of X G n_NoText, A_NotBorne, PySem.W.mg_of X G n_NotBorne, A_Unguarded, PySem.W.mg_of X G n_Unguarded, A_NoMove, PySem.W.mg_of X G n_NoMove, A_NoCell, PySem.W.mg_of X G n_NoCell, k1, k2, mm, mc⟩
  have ey : Exs K mg A_NoCell D bm3 bm2 false true := ⟨PySem.W.mg_of X G aD, PySem.W.mg_none_of X G zV, yC, xD, sub3, kM, ve3, A_NeverSo, PySem.W.mg_of X G n_NeverSo, A_NoAmount, PySem.W.mg_of X G n_NoAmount, A_NoBoard, PySem.W.mg_of X G n_NoBoard, A_NoMark, PySem.W.mg_of X G n_NoMark, A_NoShare, PySem.W.mg_of X G n_NoShare, A_NoTable, PySem.W.mg_of X G n_NoTable, A_NoText, PySem.W.mg_of X G n_NoText, A_NotBorne, PySem.W.mg_of X G n_NotBorne, A_Unguarded, PySem.W.mg_of X G n_Unguarded, A_NoMove, PySem.W.mg_of X G n_NoMove, A_NoCell, PySem.W.mg_of X G n_NoCell, j1, j2, cm, cc⟩
  have gN := PySem.W.mg_of X G gN0
  have DN : KDic K w.params aN NB := ⟨⟨_, _, _, tN, ⟨rfl, rfl, rfl⟩, rfl, .cons ⟨_, _, rfl⟩ (.cons ⟨_, _, rfl⟩ (.cons ⟨_, _, rfl⟩ (.cons ⟨_, _, rfl⟩ (.cons ⟨_, _, rfl⟩ (.cons ⟨_, _, rfl⟩ (.cons ⟨_, _, rfl⟩ .nil))))))⟩, by decide +kernel, nN0⟩
  have c16 := ok_half (P := l.prog) (w := w) (base := base) (k := 0) t16 X G B
  have c20 := ok_once (P := l.prog) (w := w) (base := base) (k := 0) t20 X G
  have c21 := ok_rooted t21 X G c16
  have c19 := ok_spun t19 X G B c20
  have c17 := ok_plus t17 X G B c16
  have c18 := ok_minus t18 X G c17 c19
  have c14 := ok_iswhole (P := l.prog) (w := w) (base := base) (k := 0) t14 X G B
  have c30 := ok_cellsof (P := l.prog) (w := w) (base := base) (k := 0) t30 X G B
  have c35 := ok_named (P := l.prog) (w := w) (base := base) (k := 0) t35 X G B
  have c34 := ok_form t34 X G B gN DN c14
  have c33 := ok_check t33 X G B c34 (c35.mono (by decide))
  have c38 := ok_mixedat t38 X G (c21.mono (by decide)) c18 (c17.mono (by decide))
  have c37 := ok_mixed t37 X G B c38
  have c41 := ok_exch (P := l.prog) (w := w) (base := base) (k := 0) t41 X G
  have c40 := ok_behind t40 X G c35 c41
  have c39 := ok_where t39 X G B c19
  have c36 := ok_turned (k := 5) t36 X G B (c33.mono (by decide)) (c30.mono (by decide)) c37 (c39.mono (by decide)) (c40.mono (by decide))
  have c43 := ok_run t43 X G B c36
  have c45 := ok_cell (P := l.prog) (w := w) (base := base) (k := 0) t45 X G B
  have c47 := ok_moveby (P := l.prog) (w := w) (base := base) (k := 0) t47 X G B
  have c23 := ok_isword t23 X G c14
  have c29 := ok_begin (PySem.W.mg_of X G gM0) t29 X G (c14.mono (by decide)) c23
  have c28 := ok_start t28 (binds_start tD) X G B (PySem.W.mg_of X G gO0) (PySem.W.mg_of X G gZ0) (kept5 tO) (kept5 tZ) c29
  have wP := ok_iswholeP (P := l.prog) (w := w) (base := base) (k := 0) t14 X G B
  have nF := ok_noform t34 X G B gN DN wP
  have xM := okx_checkM t33 X G (PySem.W.mg_of X G n_NoMove) xC nF
  have xK := okx_checkC t33 X G B (PySem.W.mg_of X G n_NoCell) yC c34 (c35.mono (by decide))
  have tM := okx_turnX (k := 5) t36 X G (xM.mono (by decide)) (c30.mono (by decide))
  have tK := okx_turnX (k := 5) t36 X G (xK.mono (by decide)) (c30.mono (by decide))
  have rM := okx_runX t43 X G B c36 tM
  have rK := okx_runX t43 X G B c36 tK
  have lw := ok_lwholeP (P := l.prog) (w := w) (base := base) (k := 0) t46 X G B
  have c50 := ok_judged t50 X G B lw
  have c52 := ok_told t52 X G B lw
  have c48 := ok_numby (P := l.prog) (w := w) (base := base) (k := 0) t48 X G
  have c49 := ok_thing t49 X G B c47 c48
  have r_M := ok_refusedX (k := 7) t51 X G B ex (xM.mono (by decide)) (tM.mono (by decide)) (rM.mono (by decide))
  have r_C := ok_refusedX (k := 7) t51 X G B ey (xK.mono (by decide)) (tK.mono (by decide)) (rK.mono (by decide))
  have r_G := ok_refusedG (k := 7) t51 X G B ex (c33.mono (by decide)) (c36.mono (by decide)) (c43.mono (by decide))
  exact ok_law (k := 8) (by decide) F B (c45.mono (by decide)) (c28.mono (by decide)) (c49.mono (by decide)) (c47.mono (by decide)) (c50.mono (by decide)) (c52.mono (by decide)) (c33.mono (by decide)) (r_M.mono (by decide)) (r_C.mono (by decide)) (r_G.mono (by decide))
theorem walk {l : PySem.W.OpenLaw} {q : Program} {loose : List Str} {XP : (Str → Option Value) → Heap → Prop} {YP : World → Heap → Prop} {d : DefRec} {K : Params → PySem.W.Frag} (hn : l.most = some 63) (hdf : d.params.defaults = [])
    (hY : ∀ (w : World) (h : Heap), YP w h → (K w.params).In h)
    (F : ∀ (w : World) (mg : Str → Option Value) (fa : Addr) (h : Heap), (K w.params).In h → h.Ns mainGlobals mg → mg d.name = some (.ref fa) →
      ∃ fd : FuncData, (∀ (s : Shared) (u : Value), BindsTo s fd ⟨[u], []⟩ [("_law_script", u)]) ∧ ∀ base : Heap, (K w.params).In base → base.Ns mainGlobals mg → FnOk l.prog w (K w.params) mg base CX0 9 fa fd ["_law_script"] (spLaw (K w.params) 63)) :
    PySem.W.WalkO q loose XP YP l.row.toRowW d [] (fun f vs => PySem.call f vs) :=
  L2.walk_light (n := 63) (k := 9) (x := "_law_script") (CX := fun _ => CX0) (sp := fun w => spLaw (K w.params) 63) hn (by decide) hdf ⟨rfl, by decide, by decide⟩ hY F (fun _ _ a ns hl lt hS => ⟨a, ns, rfl, hS, hl, lt, fun _ => rfl⟩) fun _ _ _ _ _ z => z
/-! ### the top, run piece by piece: what stands in the heap behind each -/
namespace Hd
open PySem.W
set_option maxHeartbeats 0
abbrev pr : Program := PySem.Challenge.pw_spinboard_k36_moves_refused
abbrev kh := PyData.keyHash
def dPos (s : Stmt) : Pos := match s with
  | .FunctionDef _ _ _ _ _ _ _ _ _ p => p
  | _ => ⟨0, 0, 0, 0⟩
def life : Life := (Life.mk [] [] [] 0 [] [] false #[] [] 0 false false false 0 [2000, 10, 10] false 0 true [] [] 0 false)
def en : Env := { scope := pr.main.scope, locals := mainNs, globals := mainNs, cells := [], code := (.ref 13), frame := some 14 }
def dn (P : Params) (x : Str) (t : Nat) (v : Value) : DictEntry := DictEntry.mk (kh P x) (.str x t) v
def cob (n : Str) (t1 : Nat) (q : Str) (t2 t3 : Nat) (i1 i2 i3 i4 i5 : Int) (r1 : Addr) (b : Bool) (i6 : Int) (r2 : Addr) (v1 v2 v3 : Value) (i7 i8 : Int) (t4 : Nat) : Obj := Obj.mk (.type "code") none (Data.fields #[.str n t1, .str q t2, .str "/claim/cut.py" t3, .int i1 0, .int i2 0, .int i3 0, .int i4 0, .int i5 0, .ref r1, .bool b, .int i6 0, .ref r2, .none, v1, v2, v3, .int i7 0, .int i8 0, .str "/claim/cut.py" t4]) #[]
def fo1 (n q : Str) (s : Stmt) (k j : Nat) : Obj := Obj.mk .none none (Data.func (FuncData.mk n q (defArgs s) (FuncBody.stmts (defBody s)) (defScope s) k [] .none .none .none .none none .none .none j)) #[]
def fo2 (n q : Str) (s : Stmt) (k : Nat) (m : Str) (t : Nat) (c : Addr) (j : Nat) : Obj := Obj.mk (.type "function") none (Data.func (FuncData.mk n q (defArgs s) (FuncBody.stmts (defBody s)) (defScope s) k [] .none .none .none (.str m t) none (.ref c) .none j)) #[]
def sq0 (T : String) (n : Nat) : Obj := Obj.mk (.type T) none (Data.seq #[] n) #[]
def nf0 : Obj := Obj.mk .none none (Data.fields #[]) #[]
abbrev Pz := Params
def o11_0(P:Pz):=(sq0 "tuple" 0)
def o12_0(P:Pz):=(nf0)
def o13_0(P:Pz):=(cob "<module>" 182 "<module>" 183 184 1 0 0 0 0 11 false 181 12 .none .none .none 185 1 186)
def o14_0(P:Pz):=(Obj.mk (.type "frame") none Data.plain #[(some (.ref 13)), (some (.ref 3)), (some (.ref 3)), none, (some (.str "__main__" 164)), none, (some (.ref 0))])
def Ha (P : Params) : Heap := Heap.mk (Array.mk [(boot_o_0 P), (boot_o_1 P), (boot_o_2 P), (boot_o_3 P), (boot_o_4 P), (boot_o_5 P), (boot_o_6 P), (boot_o_7 P), (boot_o_8 P), (boot_o_9 P), (boot_o_10 P), (o11_0 P), (o12_0 P), (o13_0 P), (o14_0 P)]) life
def T0 (P : Params) : BT := (.node (boot_o_0 P) (.node (boot_o_1 P) (.node (boot_o_3 P) (.node (boot_o_7 P) .nil .nil) (.node (o11_0 P) .nil .nil)) (.node (boot_o_5 P) (.node (boot_o_9 P) .nil .nil) (.node (o13_0 P) .nil .nil))) (.node (boot_o_2 P) (.node (boot_o_4 P) (.node (boot_o_8 P) .nil .nil) (.node (o12_0 P) .nil .nil)) (.node (boot_o_6 P) (.node (boot_o_10 P) .nil .nil) (.node (o14_0 P) .nil .nil))))
def l0 : List Stmt := [top 0, top 1]
def l1 : List Stmt := [top 2]
def l2 : List Stmt := [top 3]
def l3 : List Stmt := [top 4]
def l4 : List Stmt := [top 5]
def l5 : List Stmt := [top 6]
def l6 : List Stmt := [top 7]
def l7 : List Stmt := [top 8]
def l8 : List Stmt := [top 9]
def l9 : List Stmt := [top 10]
def l10 : List Stmt := [top 11]
def l11 : List Stmt := [top 12, top 13, top 14, top 15, top 16, top 17, top 18]
def l12 : List Stmt := [top 19, top 20, top 21, top 22, top 23, top 24, top 25, top 26, top 27, top 28, top 29, top 30, top 31, top 32]
def l13 : List Stmt := [top 33, top 34, top 35, top 36, top 37, top 38, top 39, top 40, top 41, top 42, top 43, top 44, top 45, top 46, top 47]
def l14 : List Stmt := [top 48, top 49, top 50, top 51, top 52, top 53]
def bE : List Stmt := l0 ++ (l1 ++ (l2 ++ (l3 ++ (l4 ++ (l5 ++ (l6 ++ (l7 ++ (l8 ++ (l9 ++ (l10 ++ (l11 ++ (l12 ++ (l13 ++ (l14 ++ []))))))))))))))
abbrev cE : Code := Code.body bE en
abbrev BB : List Frame := [topFrame (Pos.mk 0 0 0 0)]
theorem pre_ (w : World) (os : OsState) : topGo treeTable pr w 11 (some (.ref 6)) 12 (Shared.mk (boot_heap w.params) (Array.mk []) boot_drawn boot_toks os) (topStub pr) = some (Shared.mk (Ha w.params) (Array.mk []) (Drawn.mk 0 0 0 0) 187 os, Thread.mk (denote treeTable cE) cE (Pos.mk 0 0 0 0) BB) := by rw [PySem.W.Fast.te15667345088766844465, PySem.W.Fast.te11892475500146522536, PySem.W.Fast.te14364793385576792824]; kernel_rfl
theorem block_ (w : World) (os : OsState) : segRun treeTable pr w 11 (some (.ref 6)) 1 1 (Shared.mk (Ha w.params) (Array.mk []) (Drawn.mk 0 0 0 0) 187 os) (blockOf bE en cE (Pos.mk 0 0 0 0) BB) = some (Flow.next, (SharedT.mk (T0 w.params) 15 life (Array.mk []) (Drawn.mk 0 0 0 0) 187 os).abs, cE, (Pos.mk 0 0 0 0)) := by rw [PySem.W.Fast.te14374325043358763698, PySem.W.Fast.te14364793385576792824]; kernel_rfl
def o3_2(P:Pz):=(Obj.mk (.type "dict") none (Data.dict #[(dn P "__name__" 165 (.str "spinboard.errors" 187)), (dn P "__doc__" 166 .none), (dn P "__package__" 167 .none), (dn P "__loader__" 168 (.builtin "__main__.__loader__#opaque")), (dn P "__spec__" 169 .none), (dn P "__annotations__" 170 (.ref 6)), (dn P "__builtins__" 171 (.ref 4)), (dn P "__file__" 173 (.str "/claim/cut.py" 172)), (dn P "__cached__" 174 .none), (dn P "BoardError" 206 (.ref 24))] 10) #[])
def o12_2(P:Pz):=(Obj.mk .none none (Data.fields #[(.int 2 0), (.int 0 0), (.ref 20)]) #[])
def o15_2(P:Pz):=(Obj.mk (.type "tuple") none (Data.seq #[(.type "ValueError")] 0) #[])
def o16_2(P:Pz):=(Obj.mk (.type "builtin_function_or_method") none (Data.fields #[(.builtin "type.__prepare__"), (.type "type")]) #[])
def o17_2(P:Pz):=(Obj.mk (.type "dict") none (Data.dict #[(dn P "__module__" 196 (.str "spinboard.errors" 187)), (dn P "__qualname__" 198 (.str "BoardError" 197)), (dn P "__firstlineno__" 200 (.int 2 199)), (dn P "__static_attributes__" 201 (.ref 22))] 4) #[])
def o18_2(P:Pz):=(sq0 "tuple" 0)
def o19_2(P:Pz):=(nf0)
def o20_2(P:Pz):=(cob "BoardError" 191 "BoardError" 192 193 2 0 0 0 0 18 false 181 19 .none .none .none 194 2 195)
def o21_2(P:Pz):=(Obj.mk (.type "frame") none Data.plain #[(some (.ref 20)), (some (.ref 3)), (some (.ref 17)), none, (some (.str "spinboard.errors" 187)), none, (some (.ref 0))])
def o22_2(P:Pz):=(sq0 "tuple" 0)
def o23_2(P:Pz):=(Obj.mk (.type "dict") none (Data.dict #[(dn P "__module__" 196 (.str "spinboard.errors" 187)), (dn P "__firstlineno__" 200 (.int 2 199)), (dn P "__static_attributes__" 201 (.ref 22)), (dn P "__weakref__" 203 (.ref 25)), (dn P "__doc__" 204 .none)] 3) #[])
def o24_2(P:Pz):=(Obj.mk (.type "type") none (Data.cls (ClassData.mk "BoardError" [(.type "ValueError")] [(.ref 24), (.type "ValueError"), (.type "Exception"), (.type "BaseException"), (.type "object")] 23 "BoardError" true [] [] false none false)) #[(some (.ref 15)), none, (some (.str "BoardError" 189)), (some (.str "BoardError" 197)), (some (.builtin "ValueError.__new__")), (some (.bool true))])
def o25_2(P:Pz):=(Obj.mk (.type "getset_descriptor") none (Data.fields #[(.str "__weakref__" 202), (.ref 24), (.builtin "ExceptionGroup.__weakref__"), .none]) #[])
def o26_2(P:Pz):=(Obj.mk (.type "super") none (Data.fields #[(.ref 24), (.ref 24), (.ref 24)]) #[])
def o27_2(P:Pz):=(Obj.mk (.type "builtin_function_or_method") none (Data.fields #[(.builtin "object.__init_subclass__"), (.ref 24)]) #[])
def T1 (P : Params) : BT := ((((((((((((((((T0 P).ins 3 (o3_2 P)).ins 12 (o12_2 P)).ins 15 (o15_2 P)).ins 16 (o16_2 P)).ins 17 (o17_2 P)).ins 18 (o18_2 P)).ins 19 (o19_2 P)).ins 20 (o20_2 P)).ins 21 (o21_2 P)).ins 22 (o22_2 P)).ins 23 (o23_2 P)).ins 24 (o24_2 P)).ins 25 (o25_2 P)).ins 26 (o26_2 P)).ins 27 (o27_2 P))
theorem g0 (p : Program) (b : List Stmt) (w : World) (os : OsState) : segRunT treeTable p w 11 (some (.ref 6)) 1 196 (SharedT.mk (T0 w.params) 15 life (Array.mk []) (Drawn.mk 0 0 0 0) 187 os) (piecesOf l0 en (Code.body b en) (Pos.mk 0 0 0 0) BB) = some (Flow.next, (SharedT.mk (T1 w.params) 28 life (Array.mk []) (Drawn.mk 0 0 0 0) 207 os), Code.body b en, (Pos.mk 2 0 3 8)) := by rw [PySem.W.Fast.te10110043849684766642, PySem.W.Fast.te14364793385576792824]; kernel_rfl
def o3_3(P:Pz):=(Obj.mk (.type "dict") none (Data.dict #[(dn P "__name__" 165 (.str "spinboard.errors" 187)), (dn P "__doc__" 166 .none), (dn P "__package__" 167 .none), (dn P "__loader__" 168 (.builtin "__main__.__loader__#opaque")), (dn P "__spec__" 169 .none), (dn P "__annotations__" 170 (.ref 6)), (dn P "__builtins__" 171 (.ref 4)), (dn P "__file__" 173 (.str "/claim/cut.py" 172)), (dn P "__cached__" 174 .none), (dn P "BoardError" 206 (.ref 24)), (dn P "NoShare" 222 (.ref 37))] 11) #[])
def o12_3(P:Pz):=(Obj.mk .none none (Data.fields #[(.int 2 0), (.int 0 0), (.ref 20), (.int 4 0), (.int 0 0), (.ref 33)]) #[])
def o24_3(P:Pz):=(Obj.mk (.type "type") none (Data.cls (ClassData.mk "BoardError" [(.type "ValueError")] [(.ref 24), (.type "ValueError"), (.type "Exception"), (.type "BaseException"), (.type "object")] 23 "BoardError" true [] [(.ref 37)] false none false)) #[(some (.ref 15)), none, (some (.str "BoardError" 189)), (some (.str "BoardError" 197)), (some (.builtin "ValueError.__new__")), (some (.bool true))])
def o28_3(P:Pz):=(Obj.mk (.type "tuple") none (Data.seq #[(.ref 24)] 0) #[])
def o29_3(P:Pz):=(Obj.mk (.type "builtin_function_or_method") none (Data.fields #[(.builtin "type.__prepare__"), (.type "type")]) #[])
def o30_3(P:Pz):=(Obj.mk (.type "dict") none (Data.dict #[(dn P "__module__" 214 (.str "spinboard.errors" 187)), (dn P "__qualname__" 216 (.str "NoShare" 215)), (dn P "__firstlineno__" 218 (.int 4 217)), (dn P "__static_attributes__" 219 (.ref 35))] 4) #[])
def o31_3(P:Pz):=(sq0 "tuple" 0)
def o32_3(P:Pz):=(nf0)
def o33_3(P:Pz):=(cob "NoShare" 209 "NoShare" 210 211 4 0 0 0 0 31 false 181 32 .none .none .none 212 4 213)
def o34_3(P:Pz):=(Obj.mk (.type "frame") none Data.plain #[(some (.ref 33)), (some (.ref 3)), (some (.ref 30)), none, (some (.str "spinboard.errors" 187)), none, (some (.ref 0))])
def o35_3(P:Pz):=(sq0 "tuple" 0)
def o36_3(P:Pz):=(Obj.mk (.type "dict") none (Data.dict #[(dn P "__module__" 214 (.str "spinboard.errors" 187)), (dn P "__firstlineno__" 218 (.int 4 217)), (dn P "__static_attributes__" 219 (.ref 35)), (dn P "__doc__" 220 .none)] 2) #[])
def o37_3(P:Pz):=(Obj.mk (.type "type") none (Data.cls (ClassData.mk "NoShare" [(.ref 24)] [(.ref 37), (.ref 24), (.type "ValueError"), (.type "Exception"), (.type "BaseException"), (.type "object")] 36 "NoShare" true [] [] false none false)) #[(some (.ref 28)), none, (some (.str "NoShare" 207)), (some (.str "NoShare" 215)), (some (.builtin "ValueError.__new__")), (some (.bool true))])
def o38_3(P:Pz):=(Obj.mk (.type "super") none (Data.fields #[(.ref 37), (.ref 37), (.ref 37)]) #[])
def o39_3(P:Pz):=(Obj.mk (.type "builtin_function_or_method") none (Data.fields #[(.builtin "object.__init_subclass__"), (.ref 37)]) #[])
def T2 (P : Params) : BT := ((((((((((((((((T1 P).ins 3 (o3_3 P)).ins 12 (o12_3 P)).ins 24 (o24_3 P)).ins 28 (o28_3 P)).ins 29 (o29_3 P)).ins 30 (o30_3 P)).ins 31 (o31_3 P)).ins 32 (o32_3 P)).ins 33 (o33_3 P)).ins 34 (o34_3 P)).ins 35 (o35_3 P)).ins 36 (o36_3 P)).ins 37 (o37_3 P)).ins 38 (o38_3 P)).ins 39 (o39_3 P))
theorem g1 (p : Program) (b : List Stmt) (w : World) (os : OsState) : segRunT treeTable p w 11 (some (.ref 6)) 1 214 (SharedT.mk (T1 w.params) 28 life (Array.mk []) (Drawn.mk 0 0 0 0) 207 os) (piecesOf l1 en (Code.body b en) (Pos.mk 2 0 3 8) BB) = some (Flow.next, (SharedT.mk (T2 w.params) 40 life (Array.mk []) (Drawn.mk 0 0 0 0) 223 os), Code.body b en, (Pos.mk 4 0 5 8)) := by rw [PySem.W.Fast.te10110043849684766642, PySem.W.Fast.te14364793385576792824]; kernel_rfl
def o3_4(P:Pz):=(Obj.mk (.type "dict") none (Data.dict #[(dn P "__name__" 165 (.str "spinboard.errors" 187)), (dn P "__doc__" 166 .none), (dn P "__package__" 167 .none), (dn P "__loader__" 168 (.builtin "__main__.__loader__#opaque")), (dn P "__spec__" 169 .none), (dn P "__annotations__" 170 (.ref 6)), (dn P "__builtins__" 171 (.ref 4)), (dn P "__file__" 173 (.str "/claim/cut.py" 172)), (dn P "__cached__" 174 .none), (dn P "BoardError" 206 (.ref 24)), (dn P "NoShare" 222 (.ref 37)), (dn P "NoAmount" 238 (.ref 49))] 12) #[])
def o12_4(P:Pz):=(Obj.mk .none none (Data.fields #[(.int 2 0), (.int 0 0), (.ref 20), (.int 4 0), (.int 0 0), (.ref 33), (.int 6 0), (.int 0 0), (.ref 45)]) #[])
def o24_4(P:Pz):=(Obj.mk (.type "type") none (Data.cls (ClassData.mk "BoardError" [(.type "ValueError")] [(.ref 24), (.type "ValueError"), (.type "Exception"), (.type "BaseException"), (.type "object")] 23 "BoardError" true [] [(.ref 37), (.ref 49)] false none false)) #[(some (.ref 15)), none, (some (.str "BoardError" 189)), (some (.str "BoardError" 197)), (some (.builtin "ValueError.__new__")), (some (.bool true))])
def o40_4(P:Pz):=(Obj.mk (.type "tuple") none (Data.seq #[(.ref 24)] 0) #[])
def o41_4(P:Pz):=(Obj.mk (.type "builtin_function_or_method") none (Data.fields #[(.builtin "type.__prepare__"), (.type "type")]) #[])
def o42_4(P:Pz):=(Obj.mk (.type "dict") none (Data.dict #[(dn P "__module__" 230 (.str "spinboard.errors" 187)), (dn P "__qualname__" 232 (.str "NoAmount" 231)), (dn P "__firstlineno__" 234 (.int 6 233)), (dn P "__static_attributes__" 235 (.ref 47))] 4) #[])
def o43_4(P:Pz):=(sq0 "tuple" 0)
def o44_4(P:Pz):=(nf0)
def o45_4(P:Pz):=(cob "NoAmount" 225 "NoAmount" 226 227 6 0 0 0 0 43 false 181 44 .none .none .none 228 6 229)
def o46_4(P:Pz):=(Obj.mk (.type "frame") none Data.plain #[(some (.ref 45)), (some (.ref 3)), (some (.ref 42)), none, (some (.str "spinboard.errors" 187)), none, (some (.ref 0))])
def o47_4(P:Pz):=(sq0 "tuple" 0)
def o48_4(P:Pz):=(Obj.mk (.type "dict") none (Data.dict #[(dn P "__module__" 230 (.str "spinboard.errors" 187)), (dn P "__firstlineno__" 234 (.int 6 233)), (dn P "__static_attributes__" 235 (.ref 47)), (dn P "__doc__" 236 .none)] 2) #[])
def o49_4(P:Pz):=(Obj.mk (.type "type") none (Data.cls (ClassData.mk "NoAmount" [(.ref 24)] [(.ref 49), (.ref 24), (.type "ValueError"), (.type "Exception"), (.type "BaseException"), (.type "object")] 48 "NoAmount" true [] [] false none false)) #[(some (.ref 40)), none, (some (.str "NoAmount" 223)), (some (.str "NoAmount" 231)), (some (.builtin "ValueError.__new__")), (some (.bool true))])
def o50_4(P:Pz):=(Obj.mk (.type "super") none (Data.fields #[(.ref 49), (.ref 49), (.ref 49)]) #[])
def o51_4(P:Pz):=(Obj.mk (.type "builtin_function_or_method") none (Data.fields #[(.builtin "object.__init_subclass__"), (.ref 49)]) #[])
def T3 (P : Params) : BT := ((((((((((((((((T2 P).ins 3 (o3_4 P)).ins 12 (o12_4 P)).ins 24 (o24_4 P)).ins 40 (o40_4 P)).ins 41 (o41_4 P)).ins 42 (o42_4 P)).ins 43 (o43_4 P)).ins 44 (o44_4 P)).ins 45 (o45_4 P)).ins 46 (o46_4 P)).ins 47 (o47_4 P)).ins 48 (o48_4 P)).ins 49 (o49_4 P)).ins 50 (o50_4 P)).ins 51 (o51_4 P))
theorem g2 (p : Program) (b : List Stmt) (w : World) (os : OsState) : segRunT treeTable p w 11 (some (.ref 6)) 1 214 (SharedT.mk (T2 w.params) 40 life (Array.mk []) (Drawn.mk 0 0 0 0) 223 os) (piecesOf l2 en (Code.body b en) (Pos.mk 4 0 5 8) BB) = some (Flow.next, (SharedT.mk (T3 w.params) 52 life (Array.mk []) (Drawn.mk 0 0 0 0) 239 os), Code.body b en, (Pos.mk 6 0 7 8)) := by rw [PySem.W.Fast.te10110043849684766642, PySem.W.Fast.te14364793385576792824]; kernel_rfl
def o3_5(P:Pz):=Obj.mk (.type "dict") none (Data.dict #[(dn P "__name__" 165 (.str "spinboard.errors" 187)), (dn P "__doc__" 166 .none), (dn P "__package__" 167 .none), (dn P "__loader__" 168 (.builtin "__main__.__loader__#opaque")), (dn P "__spec__" 169 .none), (dn P "__annotations__" 170 (.ref 6)), (dn P "__builtins__" 171 (.ref 4)), (dn P "__file__" 173 (.str "/claim/cut.py" 172)), (dn P "__cached__" 174 .none), (dn P "BoardError" 206 (.ref 24)), (dn P "NoShare" 222 (.ref 37)), (dn P "NoAmount" 238 (.ref 49)), (dn P "NoMark" 254 (.ref 61))] 13) #[]
def o12_5(P:Pz):=(Obj.mk .none none (Data.fields #[(.int 2 0), (.int 0 0), (.ref 20), (.int 4 0), (.int 0 0), (.ref 33), (.int 6 0), (.int 0 0), (.ref 45), (.int 8 0), (.int 0 0), (.ref 57)]) #[])
def o24_5(P:Pz):=(Obj.mk (.type "type") none (Data.cls (ClassData.mk "BoardError" [(.type "ValueError")] [(.ref 24), (.type "ValueError"), (.type "Exception"), (.type "BaseException"), (.type "object")] 23 "BoardError" true [] [(.ref 37), (.ref 49), (.ref 61)] false none false)) #[(some (.ref 15)), none, (some (.str "BoardError" 189)), (some (.str "BoardError" 197)), (some (.builtin "ValueError.__new__")), (some (.bool true))])
def o52_5(P:Pz):=(Obj.mk (.type "tuple") none (Data.seq #[(.ref 24)] 0) #[])
def o53_5(P:Pz):=(Obj.mk (.type "builtin_function_or_method") none (Data.fields #[(.builtin "type.__prepare__"), (.type "type")]) #[])
def o54_5(P:Pz):=(Obj.mk (.type "dict") none (Data.dict #[(dn P "__module__" 246 (.str "spinboard.errors" 187)), (dn P "__qualname__" 248 (.str "NoMark" 247)), (dn P "__firstlineno__" 250 (.int 8 249)), (dn P "__static_attributes__" 251 (.ref 59))] 4) #[])
def o55_5(P:Pz):=(sq0 "tuple" 0)
def o56_5(P:Pz):=(nf0)
def o57_5(P:Pz):=(cob "NoMark" 241 "NoMark" 242 243 8 0 0 0 0 55 false 181 56 .none .none .none 244 8 245)
def o58_5(P:Pz):=(Obj.mk (.type "frame") none Data.plain #[(some (.ref 57)), (some (.ref 3)), (some (.ref 54)), none, (some (.str "spinboard.errors" 187)), none, (some (.ref 0))])
def o59_5(P:Pz):=(sq0 "tuple" 0)
def o60_5(P:Pz):=(Obj.mk (.type "dict") none (Data.dict #[(dn P "__module__" 246 (.str "spinboard.errors" 187)), (dn P "__firstlineno__" 250 (.int 8 249)), (dn P "__static_attributes__" 251 (.ref 59)), (dn P "__doc__" 252 .none)] 2) #[])
def o61_5(P:Pz):=(Obj.mk (.type "type") none (Data.cls (ClassData.mk "NoMark" [(.ref 24)] [(.ref 61), (.ref 24), (.type "ValueError"), (.type "Exception"), (.type "BaseException"), (.type "object")] 60 "NoMark" true [] [] false none false)) #[(some (.ref 52)), none, (some (.str "NoMark" 239)), (some (.str "NoMark" 247)), (some (.builtin "ValueError.__new__")), (some (.bool true))])
def o62_5(P:Pz):=(Obj.mk (.type "super") none (Data.fields #[(.ref 61), (.ref 61), (.ref 61)]) #[])
def o63_5(P:Pz):=(Obj.mk (.type "builtin_function_or_method") none (Data.fields #[(.builtin "object.__init_subclass__"), (.ref 61)]) #[])
def T4 (P : Params) : BT := ((((((((((((((((T3 P).ins 3 (o3_5 P)).ins 12 (o12_5 P)).ins 24 (o24_5 P)).ins 52 (o52_5 P)).ins 53 (o53_5 P)).ins 54 (o54_5 P)).ins 55 (o55_5 P)).ins 56 (o56_5 P)).ins 57 (o57_5 P)).ins 58 (o58_5 P)).ins 59 (o59_5 P)).ins 60 (o60_5 P)).ins 61 (o61_5 P)).ins 62 (o62_5 P)).ins 63 (o63_5 P))
theorem g3 (p : Program) (b : List Stmt) (w : World) (os : OsState) : segRunT treeTable p w 11 (some (.ref 6)) 1 214 (SharedT.mk (T3 w.params) 52 life (Array.mk []) (Drawn.mk 0 0 0 0) 239 os) (piecesOf l3 en (Code.body b en) (Pos.mk 6 0 7 8) BB) = some (Flow.next, (SharedT.mk (T4 w.params) 64 life (Array.mk []) (Drawn.mk 0 0 0 0) 255 os), Code.body b en, (Pos.mk 8 0 9 8)) := by rw [PySem.W.Fast.te10110043849684766642, PySem.W.Fast.te14364793385576792824]; kernel_rfl
def o3_6(P:Pz):=Obj.mk (.type "dict") none (Data.dict #[(dn P "__name__" 165 (.str "spinboard.errors" 187)), (dn P "__doc__" 166 .none), (dn P "__package__" 167 .none), (dn P "__loader__" 168 (.builtin "__main__.__loader__#opaque")), (dn P "__spec__" 169 .none), (dn P "__annotations__" 170 (.ref 6)), (dn P "__builtins__" 171 (.ref 4)), (dn P "__file__" 173 (.str "/claim/cut.py" 172)), (dn P "__cached__" 174 .none), (dn P "BoardError" 206 (.ref 24)), (dn P "NoShare" 222 (.ref 37)), (dn P "NoAmount" 238 (.ref 49)), (dn P "NoMark" 254 (.ref 61)), (dn P "NoBoard" 270 (.ref 73))] 14) #[]
def o12_6(P:Pz):=(Obj.mk .none none (Data.fields #[(.int 2 0), (.int 0 0), (.ref 20), (.int 4 0), (.int 0 0), (.ref 33), (.int 6 0), (.int 0 0), (.ref 45), (.int 8 0), (.int 0 0), (.ref 57), (.int 10 0), (.int 0 0), (.ref 69)]) #[])
def o24_6(P:Pz):=(Obj.mk (.type "type") none (Data.cls (ClassData.mk "BoardError" [(.type "ValueError")] [(.ref 24), (.type "ValueError"), (.type "Exception"), (.type "BaseException"), (.type "object")] 23 "BoardError" true [] [(.ref 37), (.ref 49), (.ref 61), (.ref 73)] false none false)) #[(some (.ref 15)), none, (some (.str "BoardError" 189)), (some (.str "BoardError" 197)), (some (.builtin "ValueError.__new__")), (some (.bool true))])
def o64_6(P:Pz):=(Obj.mk (.type "tuple") none (Data.seq #[(.ref 24)] 0) #[])
def o65_6(P:Pz):=(Obj.mk (.type "builtin_function_or_method") none (Data.fields #[(.builtin "type.__prepare__"), (.type "type")]) #[])
def o66_6(P:Pz):=(Obj.mk (.type "dict") none (Data.dict #[(dn P "__module__" 262 (.str "spinboard.errors" 187)), (dn P "__qualname__" 264 (.str "NoBoard" 263)), (dn P "__firstlineno__" 266 (.int 10 265)), (dn P "__static_attributes__" 267 (.ref 71))] 4) #[])
def o67_6(P:Pz):=(sq0 "tuple" 0)
def o68_6(P:Pz):=(nf0)
def o69_6(P:Pz):=(cob "NoBoard" 257 "NoBoard" 258 259 10 0 0 0 0 67 false 181 68 .none .none .none 260 10 261)
def o70_6(P:Pz):=(Obj.mk (.type "frame") none Data.plain #[(some (.ref 69)), (some (.ref 3)), (some (.ref 66)), none, (some (.str "spinboard.errors" 187)), none, (some (.ref 0))])
def o71_6(P:Pz):=(sq0 "tuple" 0)
def o72_6(P:Pz):=(Obj.mk (.type "dict") none (Data.dict #[(dn P "__module__" 262 (.str "spinboard.errors" 187)), (dn P "__firstlineno__" 266 (.int 10 265)), (dn P "__static_attributes__" 267 (.ref 71)), (dn P "__doc__" 268 .none)] 2) #[])
def o73_6(P:Pz):=(Obj.mk (.type "type") none (Data.cls (ClassData.mk "NoBoard" [(.ref 24)] [(.ref 73), (.ref 24), (.type "ValueError"), (.type "Exception"), (.type "BaseException"), (.type "object")] 72 "NoBoard" true [] [] false none false)) #[(some (.ref 64)), none, (some (.str "NoBoard" 255)), (some (.str "NoBoard" 263)), (some (.builtin "ValueError.__new__")), (some (.bool true))])
def o74_6(P:Pz):=(Obj.mk (.type "super") none (Data.fields #[(.ref 73), (.ref 73), (.ref 73)]) #[])
def o75_6(P:Pz):=(Obj.mk (.type "builtin_function_or_method") none (Data.fields #[(.builtin "object.__init_subclass__"), (.ref 73)]) #[])
def T5 (P : Params) : BT := ((((((((((((((((T4 P).ins 3 (o3_6 P)).ins 12 (o12_6 P)).ins 24 (o24_6 P)).ins 64 (o64_6 P)).ins 65 (o65_6 P)).ins 66 (o66_6 P)).ins 67 (o67_6 P)).ins 68 (o68_6 P)).ins 69 (o69_6 P)).ins 70 (o70_6 P)).ins 71 (o71_6 P)).ins 72 (o72_6 P)).ins 73 (o73_6 P)).ins 74 (o74_6 P)).ins 75 (o75_6 P))
theorem g4 (p : Program) (b : List Stmt) (w : World) (os : OsState) : segRunT treeTable p w 11 (some (.ref 6)) 1 214 (SharedT.mk (T4 w.params) 64 life (Array.mk []) (Drawn.mk 0 0 0 0) 255 os) (piecesOf l4 en (Code.body b en) (Pos.mk 8 0 9 8) BB) = some (Flow.next, (SharedT.mk (T5 w.params) 76 life (Array.mk []) (Drawn.mk 0 0 0 0) 271 os), Code.body b en, (Pos.mk 10 0 11 8)) := by rw [PySem.W.Fast.te10110043849684766642, PySem.W.Fast.te14364793385576792824]; kernel_rfl
def o3_7(P:Pz):=Obj.mk (.type "dict") none (Data.dict #[(dn P "__name__" 165 (.str "spinboard.errors" 187)), (dn P "__doc__" 166 .none), (dn P "__package__" 167 .none), (dn P "__loader__" 168 (.builtin "__main__.__loader__#opaque")), (dn P "__spec__" 169 .none), (dn P "__annotations__" 170 (.ref 6)), (dn P "__builtins__" 171 (.ref 4)), (dn P "__file__" 173 (.str "/claim/cut.py" 172)), (dn P "__cached__" 174 .none), (dn P "BoardError" 206 (.ref 24)), (dn P "NoShare" 222 (.ref 37)), (dn P "NoAmount" 238 (.ref 49)), (dn P "NoMark" 254 (.ref 61)), (dn P "NoBoard" 270 (.ref 73)), (dn P "NoMove" 286 (.ref 85))] 15) #[]
def o12_7(P:Pz):=(Obj.mk .none none (Data.fields #[(.int 2 0), (.int 0 0), (.ref 20), (.int 4 0), (.int 0 0), (.ref 33), (.int 6 0), (.int 0 0), (.ref 45), (.int 8 0), (.int 0 0), (.ref 57), (.int 10 0), (.int 0 0), (.ref 69), (.int 12 0), (.int 0 0), (.ref 81)]) #[])
def o24_7(P:Pz):=(Obj.mk (.type "type") none (Data.cls (ClassData.mk "BoardError" [(.type "ValueError")] [(.ref 24), (.type "ValueError"), (.type "Exception"), (.type "BaseException"), (.type "object")] 23 "BoardError" true [] [(.ref 37), (.ref 49), (.ref 61), (.ref 73), (.ref 85)] false none false)) #[(some (.ref 15)), none, (some (.str "BoardError" 189)), (some (.str "BoardError" 197)), (some (.builtin "ValueError.__new__")), (some (.bool true))])
def o76_7(P:Pz):=(Obj.mk (.type "tuple") none (Data.seq #[(.ref 24)] 0) #[])
def o77_7(P:Pz):=(Obj.mk (.type "builtin_function_or_method") none (Data.fields #[(.builtin "type.__prepare__"), (.type "type")]) #[])
def o78_7(P:Pz):=(Obj.mk (.type "dict") none (Data.dict #[(dn P "__module__" 278 (.str "spinboard.errors" 187)), (dn P "__qualname__" 280 (.str "NoMove" 279)), (dn P "__firstlineno__" 282 (.int 12 281)), (dn P "__static_attributes__" 283 (.ref 83))] 4) #[])
def o79_7(P:Pz):=(sq0 "tuple" 0)
def o80_7(P:Pz):=(nf0)
def o81_7(P:Pz):=(cob "NoMove" 273 "NoMove" 274 275 12 0 0 0 0 79 false 181 80 .none .none .none 276 12 277)
def o82_7(P:Pz):=(Obj.mk (.type "frame") none Data.plain #[(some (.ref 81)), (some (.ref 3)), (some (.ref 78)), none, (some (.str "spinboard.errors" 187)), none, (some (.ref 0))])
def o83_7(P:Pz):=(sq0 "tuple" 0)
def o84_7(P:Pz):=(Obj.mk (.type "dict") none (Data.dict #[(dn P "__module__" 278 (.str "spinboard.errors" 187)), (dn P "__firstlineno__" 282 (.int 12 281)), (dn P "__static_attributes__" 283 (.ref 83)), (dn P "__doc__" 284 .none)] 2) #[])
def o85_7(P:Pz):=(Obj.mk (.type "type") none (Data.cls (ClassData.mk "NoMove" [(.ref 24)] [(.ref 85), (.ref 24), (.type "ValueError"), (.type "Exception"), (.type "BaseException"), (.type "object")] 84 "NoMove" true [] [] false none false)) #[(some (.ref 76)), none, (some (.str "NoMove" 271)), (some (.str "NoMove" 279)), (some (.builtin "ValueError.__new__")), (some (.bool true))])
def o86_7(P:Pz):=(Obj.mk (.type "super") none (Data.fields #[(.ref 85), (.ref 85), (.ref 85)]) #[])
def o87_7(P:Pz):=(Obj.mk (.type "builtin_function_or_method") none (Data.fields #[(.builtin "object.__init_subclass__"), (.ref 85)]) #[])
def T6 (P : Params) : BT := ((((((((((((((((T5 P).ins 3 (o3_7 P)).ins 12 (o12_7 P)).ins 24 (o24_7 P)).ins 76 (o76_7 P)).ins 77 (o77_7 P)).ins 78 (o78_7 P)).ins 79 (o79_7 P)).ins 80 (o80_7 P)).ins 81 (o81_7 P)).ins 82 (o82_7 P)).ins 83 (o83_7 P)).ins 84 (o84_7 P)).ins 85 (o85_7 P)).ins 86 (o86_7 P)).ins 87 (o87_7 P))
theorem g5 (p : Program) (b : List Stmt) (w : World) (os : OsState) : segRunT treeTable p w 11 (some (.ref 6)) 1 214 (SharedT.mk (T5 w.params) 76 life (Array.mk []) (Drawn.mk 0 0 0 0) 271 os) (piecesOf l5 en (Code.body b en) (Pos.mk 10 0 11 8) BB) = some (Flow.next, (SharedT.mk (T6 w.params) 88 life (Array.mk []) (Drawn.mk 0 0 0 0) 287 os), Code.body b en, (Pos.mk 12 0 13 8)) := by rw [PySem.W.Fast.te10110043849684766642, PySem.W.Fast.te14364793385576792824]; kernel_rfl
def o3_8(P:Pz):=Obj.mk (.type "dict") none (Data.dict #[(dn P "__name__" 165 (.str "spinboard.errors" 187)), (dn P "__doc__" 166 .none), (dn P "__package__" 167 .none), (dn P "__loader__" 168 (.builtin "__main__.__loader__#opaque")), (dn P "__spec__" 169 .none), (dn P "__annotations__" 170 (.ref 6)), (dn P "__builtins__" 171 (.ref 4)), (dn P "__file__" 173 (.str "/claim/cut.py" 172)), (dn P "__cached__" 174 .none), (dn P "BoardError" 206 (.ref 24)), (dn P "NoShare" 222 (.ref 37)), (dn P "NoAmount" 238 (.ref 49)), (dn P "NoMark" 254 (.ref 61)), (dn P "NoBoard" 270 (.ref 73)), (dn P "NoMove" 286 (.ref 85)), (dn P "NoCell" 302 (.ref 97))] 16) #[]
def o12_8(P:Pz):=(Obj.mk .none none (Data.fields #[(.int 2 0), (.int 0 0), (.ref 20), (.int 4 0), (.int 0 0), (.ref 33), (.int 6 0), (.int 0 0), (.ref 45), (.int 8 0), (.int 0 0), (.ref 57), (.int 10 0), (.int 0 0), (.ref 69), (.int 12 0), (.int 0 0), (.ref 81), (.int 14 0), (.int 0 0), (.ref 93)]) #[])
def o24_8(P:Pz):=(Obj.mk (.type "type") none (Data.cls (ClassData.mk "BoardError" [(.type "ValueError")] [(.ref 24), (.type "ValueError"), (.type "Exception"), (.type "BaseException"), (.type "object")] 23 "BoardError" true [] [(.ref 37), (.ref 49), (.ref 61), (.ref 73), (.ref 85), (.ref 97)] false none false)) #[(some (.ref 15)), none, (some (.str "BoardError" 189)), (some (.str "BoardError" 197)), (some (.builtin "ValueError.__new__")), (some (.bool true))])
def o88_8(P:Pz):=(Obj.mk (.type "tuple") none (Data.seq #[(.ref 24)] 0) #[])
def o89_8(P:Pz):=(Obj.mk (.type "builtin_function_or_method") none (Data.fields #[(.builtin "type.__prepare__"), (.type "type")]) #[])
def o90_8(P:Pz):=(Obj.mk (.type "dict") none (Data.dict #[(dn P "__module__" 294 (.str "spinboard.errors" 187)), (dn P "__qualname__" 296 (.str "NoCell" 295)), (dn P "__firstlineno__" 298 (.int 14 297)), (dn P "__static_attributes__" 299 (.ref 95))] 4) #[])
def o91_8(P:Pz):=(sq0 "tuple" 0)
def o92_8(P:Pz):=(nf0)
def o93_8(P:Pz):=(cob "NoCell" 289 "NoCell" 290 291 14 0 0 0 0 91 false 181 92 .none .none .none 292 14 293)
def o94_8(P:Pz):=(Obj.mk (.type "frame") none Data.plain #[(some (.ref 93)), (some (.ref 3)), (some (.ref 90)), none, (some (.str "spinboard.errors" 187)), none, (some (.ref 0))])
def o95_8(P:Pz):=(sq0 "tuple" 0)
def o96_8(P:Pz):=(Obj.mk (.type "dict") none (Data.dict #[(dn P "__module__" 294 (.str "spinboard.errors" 187)), (dn P "__firstlineno__" 298 (.int 14 297)), (dn P "__static_attributes__" 299 (.ref 95)), (dn P "__doc__" 300 .none)] 2) #[])
def o97_8(P:Pz):=(Obj.mk (.type "type") none (Data.cls (ClassData.mk "NoCell" [(.ref 24)] [(.ref 97), (.ref 24), (.type "ValueError"), (.type "Exception"), (.type "BaseException"), (.type "object")] 96 "NoCell" true [] [] false none false)) #[(some (.ref 88)), none, (some (.str "NoCell" 287)), (some (.str "NoCell" 295)), (some (.builtin "ValueError.__new__")), (some (.bool true))])
def o98_8(P:Pz):=(Obj.mk (.type "super") none (Data.fields #[(.ref 97), (.ref 97), (.ref 97)]) #[])
def o99_8(P:Pz):=(Obj.mk (.type "builtin_function_or_method") none (Data.fields #[(.builtin "object.__init_subclass__"), (.ref 97)]) #[])
def T7 (P : Params) : BT := ((((((((((((((((T6 P).ins 3 (o3_8 P)).ins 12 (o12_8 P)).ins 24 (o24_8 P)).ins 88 (o88_8 P)).ins 89 (o89_8 P)).ins 90 (o90_8 P)).ins 91 (o91_8 P)).ins 92 (o92_8 P)).ins 93 (o93_8 P)).ins 94 (o94_8 P)).ins 95 (o95_8 P)).ins 96 (o96_8 P)).ins 97 (o97_8 P)).ins 98 (o98_8 P)).ins 99 (o99_8 P))
theorem g6 (p : Program) (b : List Stmt) (w : World) (os : OsState) : segRunT treeTable p w 11 (some (.ref 6)) 1 214 (SharedT.mk (T6 w.params) 88 life (Array.mk []) (Drawn.mk 0 0 0 0) 287 os) (piecesOf l6 en (Code.body b en) (Pos.mk 12 0 13 8) BB) = some (Flow.next, (SharedT.mk (T7 w.params) 100 life (Array.mk []) (Drawn.mk 0 0 0 0) 303 os), Code.body b en, (Pos.mk 14 0 15 8)) := by rw [PySem.W.Fast.te10110043849684766642, PySem.W.Fast.te14364793385576792824]; kernel_rfl
def o3_9(P:Pz):=Obj.mk (.type "dict") none (Data.dict #[(dn P "__name__" 165 (.str "spinboard.errors" 187)), (dn P "__doc__" 166 .none), (dn P "__package__" 167 .none), (dn P "__loader__" 168 (.builtin "__main__.__loader__#opaque")), (dn P "__spec__" 169 .none), (dn P "__annotations__" 170 (.ref 6)), (dn P "__builtins__" 171 (.ref 4)), (dn P "__file__" 173 (.str "/claim/cut.py" 172)), (dn P "__cached__" 174 .none), (dn P "BoardError" 206 (.ref 24)), (dn P "NoShare" 222 (.ref 37)), (dn P "NoAmount" 238 (.ref 49)), (dn P "NoMark" 254 (.ref 61)), (dn P "NoBoard" 270 (.ref 73)), (dn P "NoMove" 286 (.ref 85)), (dn P "NoCell" 302 (.ref 97)), (dn P "NeverSo" 318 (.ref 109))] 17) #[]
def o12_9(P:Pz):=(Obj.mk .none none (Data.fields #[(.int 2 0), (.int 0 0), (.ref 20), (.int 4 0), (.int 0 0), (.ref 33), (.int 6 0), (.int 0 0), (.ref 45), (.int 8 0), (.int 0 0), (.ref 57), (.int 10 0), (.int 0 0), (.ref 69), (.int 12 0), (.int 0 0), (.ref 81), (.int 14 0), (.int 0 0), (.ref 93), (.int 16 0), (.int 0 0), (.ref 105)]) #[])
def o24_9(P:Pz):=(Obj.mk (.type "type") none (Data.cls (ClassData.mk "BoardError" [(.type "ValueError")] [(.ref 24), (.type "ValueError"), (.type "Exception"), (.type "BaseException"), (.type "object")] 23 "BoardError" true [] [(.ref 37), (.ref 49), (.ref 61), (.ref 73), (.ref 85), (.ref 97), (.ref 109)] false none false)) #[(some (.ref 15)), none, (some (.str "BoardError" 189)), (some (.str "BoardError" 197)), (some (.builtin "ValueError.__new__")), (some (.bool true))])
def o100_9(P:Pz):=(Obj.mk (.type "tuple") none (Data.seq #[(.ref 24)] 0) #[])
def o101_9(P:Pz):=(Obj.mk (.type "builtin_function_or_method") none (Data.fields #[(.builtin "type.__prepare__"), (.type "type")]) #[])
def o102_9(P:Pz):=(Obj.mk (.type "dict") none (Data.dict #[(dn P "__module__" 310 (.str "spinboard.errors" 187)), (dn P "__qualname__" 312 (.str "NeverSo" 311)), (dn P "__firstlineno__" 314 (.int 16 313)), (dn P "__static_attributes__" 315 (.ref 107))] 4) #[])
def o103_9(P:Pz):=(sq0 "tuple" 0)
def o104_9(P:Pz):=(nf0)
def o105_9(P:Pz):=(cob "NeverSo" 305 "NeverSo" 306 307 16 0 0 0 0 103 false 181 104 .none .none .none 308 16 309)
def o106_9(P:Pz):=(Obj.mk (.type "frame") none Data.plain #[(some (.ref 105)), (some (.ref 3)), (some (.ref 102)), none, (some (.str "spinboard.errors" 187)), none, (some (.ref 0))])
def o107_9(P:Pz):=(sq0 "tuple" 0)
def o108_9(P:Pz):=(Obj.mk (.type "dict") none (Data.dict #[(dn P "__module__" 310 (.str "spinboard.errors" 187)), (dn P "__firstlineno__" 314 (.int 16 313)), (dn P "__static_attributes__" 315 (.ref 107)), (dn P "__doc__" 316 .none)] 2) #[])
def o109_9(P:Pz):=(Obj.mk (.type "type") none (Data.cls (ClassData.mk "NeverSo" [(.ref 24)] [(.ref 109), (.ref 24), (.type "ValueError"), (.type "Exception"), (.type "BaseException"), (.type "object")] 108 "NeverSo" true [] [] false none false)) #[(some (.ref 100)), none, (some (.str "NeverSo" 303)), (some (.str "NeverSo" 311)), (some (.builtin "ValueError.__new__")), (some (.bool true))])
def o110_9(P:Pz):=(Obj.mk (.type "super") none (Data.fields #[(.ref 109), (.ref 109), (.ref 109)]) #[])
def o111_9(P:Pz):=(Obj.mk (.type "builtin_function_or_method") none (Data.fields #[(.builtin "object.__init_subclass__"), (.ref 109)]) #[])
def T8 (P : Params) : BT := ((((((((((((((((T7 P).ins 3 (o3_9 P)).ins 12 (o12_9 P)).ins 24 (o24_9 P)).ins 100 (o100_9 P)).ins 101 (o101_9 P)).ins 102 (o102_9 P)).ins 103 (o103_9 P)).ins 104 (o104_9 P)).ins 105 (o105_9 P)).ins 106 (o106_9 P)).ins 107 (o107_9 P)).ins 108 (o108_9 P)).ins 109 (o109_9 P)).ins 110 (o110_9 P)).ins 111 (o111_9 P))
theorem g7 (p : Program) (b : List Stmt) (w : World) (os : OsState) : segRunT treeTable p w 11 (some (.ref 6)) 1 214 (SharedT.mk (T7 w.params) 100 life (Array.mk []) (Drawn.mk 0 0 0 0) 303 os) (piecesOf l7 en (Code.body b en) (Pos.mk 14 0 15 8) BB) = some (Flow.next, (SharedT.mk (T8 w.params) 112 life (Array.mk []) (Drawn.mk 0 0 0 0) 319 os), Code.body b en, (Pos.mk 16 0 17 8)) := by rw [PySem.W.Fast.te10110043849684766642, PySem.W.Fast.te14364793385576792824]; kernel_rfl
def o3_10(P:Pz):=Obj.mk (.type "dict") none (Data.dict #[(dn P "__name__" 165 (.str "spinboard.errors" 187)), (dn P "__doc__" 166 .none), (dn P "__package__" 167 .none), (dn P "__loader__" 168 (.builtin "__main__.__loader__#opaque")), (dn P "__spec__" 169 .none), (dn P "__annotations__" 170 (.ref 6)), (dn P "__builtins__" 171 (.ref 4)), (dn P "__file__" 173 (.str "/claim/cut.py" 172)), (dn P "__cached__" 174 .none), (dn P "BoardError" 206 (.ref 24)), (dn P "NoShare" 222 (.ref 37)), (dn P "NoAmount" 238 (.ref 49)), (dn P "NoMark" 254 (.ref 61)), (dn P "NoBoard" 270 (.ref 73)), (dn P "NoMove" 286 (.ref 85)), (dn P "NoCell" 302 (.ref 97)), (dn P "NeverSo" 318 (.ref 109)), (dn P "NoTable" 334 (.ref 121))] 18) #[]
def o12_10(P:Pz):=(Obj.mk .none none (Data.fields #[(.int 2 0), (.int 0 0), (.ref 20), (.int 4 0), (.int 0 0), (.ref 33), (.int 6 0), (.int 0 0), (.ref 45), (.int 8 0), (.int 0 0), (.ref 57), (.int 10 0), (.int 0 0), (.ref 69), (.int 12 0), (.int 0 0), (.ref 81), (.int 14 0), (.int 0 0), (.ref 93), (.int 16 0), (.int 0 0), (.ref 105), (.int 18 0), (.int 0 0), (.ref 117)]) #[])
def o24_10(P:Pz):=(Obj.mk (.type "type") none (Data.cls (ClassData.mk "BoardError" [(.type "ValueError")] [(.ref 24), (.type "ValueError"), (.type "Exception"), (.type "BaseException"), (.type "object")] 23 "BoardError" true [] [(.ref 37), (.ref 49), (.ref 61), (.ref 73), (.ref 85), (.ref 97), (.ref 109), (.ref 121)] false none false)) #[(some (.ref 15)), none, (some (.str "BoardError" 189)), (some (.str "BoardError" 197)), (some (.builtin "ValueError.__new__")), (some (.bool true))])
def o112_10(P:Pz):=(Obj.mk (.type "tuple") none (Data.seq #[(.ref 24)] 0) #[])
def o113_10(P:Pz):=(Obj.mk (.type "builtin_function_or_method") none (Data.fields #[(.builtin "type.__prepare__"), (.type "type")]) #[])
def o114_10(P:Pz):=(Obj.mk (.type "dict") none (Data.dict #[(dn P "__module__" 326 (.str "spinboard.errors" 187)), (dn P "__qualname__" 328 (.str "NoTable" 327)), (dn P "__firstlineno__" 330 (.int 18 329)), (dn P "__static_attributes__" 331 (.ref 119))] 4) #[])
def o115_10(P:Pz):=(sq0 "tuple" 0)
def o116_10(P:Pz):=(nf0)
def o117_10(P:Pz):=(cob "NoTable" 321 "NoTable" 322 323 18 0 0 0 0 115 false 181 116 .none .none .none 324 18 325)
def o118_10(P:Pz):=(Obj.mk (.type "frame") none Data.plain #[(some (.ref 117)), (some (.ref 3)), (some (.ref 114)), none, (some (.str "spinboard.errors" 187)), none, (some (.ref 0))])
def o119_10(P:Pz):=(sq0 "tuple" 0)
def o120_10(P:Pz):=(Obj.mk (.type "dict") none (Data.dict #[(dn P "__module__" 326 (.str "spinboard.errors" 187)), (dn P "__firstlineno__" 330 (.int 18 329)), (dn P "__static_attributes__" 331 (.ref 119)), (dn P "__doc__" 332 .none)] 2) #[])
def o121_10(P:Pz):=(Obj.mk (.type "type") none (Data.cls (ClassData.mk "NoTable" [(.ref 24)] [(.ref 121), (.ref 24), (.type "ValueError"), (.type "Exception"), (.type "BaseException"), (.type "object")] 120 "NoTable" true [] [] false none false)) #[(some (.ref 112)), none, (some (.str "NoTable" 319)), (some (.str "NoTable" 327)), (some (.builtin "ValueError.__new__")), (some (.bool true))])
def o122_10(P:Pz):=(Obj.mk (.type "super") none (Data.fields #[(.ref 121), (.ref 121), (.ref 121)]) #[])
def o123_10(P:Pz):=(Obj.mk (.type "builtin_function_or_method") none (Data.fields #[(.builtin "object.__init_subclass__"), (.ref 121)]) #[])
def T9 (P : Params) : BT := ((((((((((((((((T8 P).ins 3 (o3_10 P)).ins 12 (o12_10 P)).ins 24 (o24_10 P)).ins 112 (o112_10 P)).ins 113 (o113_10 P)).ins 114 (o114_10 P)).ins 115 (o115_10 P)).ins 116 (o116_10 P)).ins 117 (o117_10 P)).ins 118 (o118_10 P)).ins 119 (o119_10 P)).ins 120 (o120_10 P)).ins 121 (o121_10 P)).ins 122 (o122_10 P)).ins 123 (o123_10 P))
theorem g8 (p : Program) (b : List Stmt) (w : World) (os : OsState) : segRunT treeTable p w 11 (some (.ref 6)) 1 214 (SharedT.mk (T8 w.params) 112 life (Array.mk []) (Drawn.mk 0 0 0 0) 319 os) (piecesOf l8 en (Code.body b en) (Pos.mk 16 0 17 8) BB) = some (Flow.next, (SharedT.mk (T9 w.params) 124 life (Array.mk []) (Drawn.mk 0 0 0 0) 335 os), Code.body b en, (Pos.mk 18 0 19 8)) := by rw [PySem.W.Fast.te10110043849684766642, PySem.W.Fast.te14364793385576792824]; kernel_rfl
def o3_11(P:Pz):=Obj.mk (.type "dict") none (Data.dict #[(dn P "__name__" 165 (.str "spinboard.errors" 187)), (dn P "__doc__" 166 .none), (dn P "__package__" 167 .none), (dn P "__loader__" 168 (.builtin "__main__.__loader__#opaque")), (dn P "__spec__" 169 .none), (dn P "__annotations__" 170 (.ref 6)), (dn P "__builtins__" 171 (.ref 4)), (dn P "__file__" 173 (.str "/claim/cut.py" 172)), (dn P "__cached__" 174 .none), (dn P "BoardError" 206 (.ref 24)), (dn P "NoShare" 222 (.ref 37)), (dn P "NoAmount" 238 (.ref 49)), (dn P "NoMark" 254 (.ref 61)), (dn P "NoBoard" 270 (.ref 73)), (dn P "NoMove" 286 (.ref 85)), (dn P "NoCell" 302 (.ref 97)), (dn P "NeverSo" 318 (.ref 109)), (dn P "NoTable" 334 (.ref 121)), (dn P "NoText" 359 (.ref 140))] 19) #[]
def o12_11(P:Pz):=(Obj.mk .none none (Data.fields #[(.int 2 0), (.int 0 0), (.ref 20), (.int 4 0), (.int 0 0), (.ref 33), (.int 6 0), (.int 0 0), (.ref 45), (.int 8 0), (.int 0 0), (.ref 57), (.int 10 0), (.int 0 0), (.ref 69), (.int 12 0), (.int 0 0), (.ref 81), (.int 14 0), (.int 0 0), (.ref 93), (.int 16 0), (.int 0 0), (.ref 105), (.int 18 0), (.int 0 0), (.ref 117), (.int 20 0), (.int 0 0), (.ref 129)]) #[])
def o24_11(P:Pz):=(Obj.mk (.type "type") none (Data.cls (ClassData.mk "BoardError" [(.type "ValueError")] [(.ref 24), (.type "ValueError"), (.type "Exception"), (.type "BaseException"), (.type "object")] 23 "BoardError" true [] [(.ref 37), (.ref 49), (.ref 61), (.ref 73), (.ref 85), (.ref 97), (.ref 109), (.ref 121), (.ref 140)] false none false)) #[(some (.ref 15)), none, (some (.str "BoardError" 189)), (some (.str "BoardError" 197)), (some (.builtin "ValueError.__new__")), (some (.bool true))])
def o124_11(P:Pz):=(Obj.mk (.type "tuple") none (Data.seq #[(.ref 24)] 0) #[])
def o125_11(P:Pz):=(Obj.mk (.type "builtin_function_or_method") none (Data.fields #[(.builtin "type.__prepare__"), (.type "type")]) #[])
def o126_11(P:Pz):=(Obj.mk (.type "dict") none (Data.dict #[(dn P "__module__" 342 (.str "spinboard.errors" 187)), (dn P "__qualname__" 344 (.str "NoText" 343)), (dn P "__firstlineno__" 346 (.int 20 345)), (dn P "__init__" 354 (.ref 137)), (dn P "__static_attributes__" 356 (.ref 138))] 5) #[])
def o127_11(P:Pz):=(sq0 "tuple" 0)
def o128_11(P:Pz):=(Obj.mk .none none (Data.fields #[(.int 22 0), (.int 4 0), (.ref 136)]) #[])
def o129_11(P:Pz):=(cob "NoText" 337 "NoText" 338 339 20 0 0 0 0 127 false 181 128 .none .none .none 340 20 341)
def o130_11(P:Pz):=(Obj.mk (.type "frame") none Data.plain #[(some (.ref 129)), (some (.ref 3)), (some (.ref 126)), none, (some (.str "spinboard.errors" 187)), none, (some (.ref 0))])
def o131_11(P:Pz):=(sq0 "tuple" 0)
def o132_11(P:Pz):=(nf0)
def o133_11(P:Pz):=(Obj.mk (.type "tuple") none (Data.seq #[(.str "self" 350), (.str "place" 351)] 0) #[])
def o134_11(P:Pz):=(sq0 "tuple" 0)
def o135_11(P:Pz):=(Obj.mk .none none (Data.func (FuncData.mk "__init__" "NoText.__init__" (defArgs (inClass (top 10) 0)) (FuncBody.stmts (defBody (inClass (top 10) 0))) (defScope (inClass (top 11) 0)) 0 [] .none .none .none .none none .none .none 0)) #[])
def o136_11(P:Pz):=(cob "__init__" 347 "NoText.__init__" 348 349 22 2 0 0 3 131 true 181 132 (.ref 133) (.ref 134) (.ref 135) 352 22 353)
def o137_11(P:Pz):=(Obj.mk (.type "function") none (Data.func (FuncData.mk "__init__" "NoText.__init__" (defArgs (inClass (top 10) 0)) (FuncBody.stmts (defBody (inClass (top 10) 0))) (defScope (inClass (top 11) 0)) 3 [] .none .none .none (.str "spinboard.errors" 187) none (.ref 136) .none 0)) #[])
def o138_11(P:Pz):=(Obj.mk (.type "tuple") none (Data.seq #[(.str "place" 355)] 0) #[])
def o139_11(P:Pz):=(Obj.mk (.type "dict") none (Data.dict #[(dn P "__module__" 342 (.str "spinboard.errors" 187)), (dn P "__firstlineno__" 346 (.int 20 345)), (dn P "__init__" 354 (.ref 137)), (dn P "__static_attributes__" 356 (.ref 138)), (dn P "__doc__" 357 .none)] 2) #[])
def o140_11(P:Pz):=(Obj.mk (.type "type") none (Data.cls (ClassData.mk "NoText" [(.ref 24)] [(.ref 140), (.ref 24), (.type "ValueError"), (.type "Exception"), (.type "BaseException"), (.type "object")] 139 "NoText" true [] [] false none false)) #[(some (.ref 124)), none, (some (.str "NoText" 335)), (some (.str "NoText" 343)), (some (.builtin "ValueError.__new__")), (some (.bool true))])
def o141_11(P:Pz):=(Obj.mk (.type "super") none (Data.fields #[(.ref 140), (.ref 140), (.ref 140)]) #[])
def o142_11(P:Pz):=(Obj.mk (.type "builtin_function_or_method") none (Data.fields #[(.builtin "object.__init_subclass__"), (.ref 140)]) #[])
def T10 (P : Params) : BT := (((((((((((((((((((((((T9 P).ins 3 (o3_11 P)).ins 12 (o12_11 P)).ins 24 (o24_11 P)).ins 124 (o124_11 P)).ins 125 (o125_11 P)).ins 126 (o126_11 P)).ins 127 (o127_11 P)).ins 128 (o128_11 P)).ins 129 (o129_11 P)).ins 130 (o130_11 P)).ins 131 (o131_11 P)).ins 132 (o132_11 P)).ins 133 (o133_11 P)).ins 134 (o134_11 P)).ins 135 (o135_11 P)).ins 136 (o136_11 P)).ins 137 (o137_11 P)).ins 138 (o138_11 P)).ins 139 (o139_11 P)).ins 140 (o140_11 P)).ins 141 (o141_11 P)).ins 142 (o142_11 P))
theorem g9 (p : Program) (b : List Stmt) (w : World) (os : OsState) : segRunT treeTable p w 11 (some (.ref 6)) 1 246 (SharedT.mk (T9 w.params) 124 life (Array.mk []) (Drawn.mk 0 0 0 0) 335 os) (piecesOf l9 en (Code.body b en) (Pos.mk 18 0 19 8) BB) = some (Flow.next, (SharedT.mk (T10 w.params) 143 life (Array.mk []) (Drawn.mk 0 0 0 0) 360 os), Code.body b en, (Pos.mk 20 0 23 26)) := by rw [PySem.W.Fast.te10110043849684766642, PySem.W.Fast.te14364793385576792824]; kernel_rfl
def o3_12(P:Pz):=Obj.mk (.type "dict") none (Data.dict #[(dn P "__name__" 165 (.str "spinboard.errors" 187)), (dn P "__doc__" 166 .none), (dn P "__package__" 167 .none), (dn P "__loader__" 168 (.builtin "__main__.__loader__#opaque")), (dn P "__spec__" 169 .none), (dn P "__annotations__" 170 (.ref 6)), (dn P "__builtins__" 171 (.ref 4)), (dn P "__file__" 173 (.str "/claim/cut.py" 172)), (dn P "__cached__" 174 .none), (dn P "BoardError" 206 (.ref 24)), (dn P "NoShare" 222 (.ref 37)), (dn P "NoAmount" 238 (.ref 49)), (dn P "NoMark" 254 (.ref 61)), (dn P "NoBoard" 270 (.ref 73)), (dn P "NoMove" 286 (.ref 85)), (dn P "NoCell" 302 (.ref 97)), (dn P "NeverSo" 318 (.ref 109)), (dn P "NoTable" 334 (.ref 121)), (dn P "NoText" 359 (.ref 140)), (dn P "NotBorne" 384 (.ref 159))] 20) #[]
def o12_12(P:Pz):=(Obj.mk .none none (Data.fields #[(.int 2 0), (.int 0 0), (.ref 20), (.int 4 0), (.int 0 0), (.ref 33), (.int 6 0), (.int 0 0), (.ref 45), (.int 8 0), (.int 0 0), (.ref 57), (.int 10 0), (.int 0 0), (.ref 69), (.int 12 0), (.int 0 0), (.ref 81), (.int 14 0), (.int 0 0), (.ref 93), (.int 16 0), (.int 0 0), (.ref 105), (.int 18 0), (.int 0 0), (.ref 117), (.int 20 0), (.int 0 0), (.ref 129), (.int 24 0), (.int 0 0), (.ref 148)]) #[])
def o24_12(P:Pz):=(Obj.mk (.type "type") none (Data.cls (ClassData.mk "BoardError" [(.type "ValueError")] [(.ref 24), (.type "ValueError"), (.type "Exception"), (.type "BaseException"), (.type "object")] 23 "BoardError" true [] [(.ref 37), (.ref 49), (.ref 61), (.ref 73), (.ref 85), (.ref 97), (.ref 109), (.ref 121), (.ref 140), (.ref 159)] false none false)) #[(some (.ref 15)), none, (some (.str "BoardError" 189)), (some (.str "BoardError" 197)), (some (.builtin "ValueError.__new__")), (some (.bool true))])
def o143_12(P:Pz):=(Obj.mk (.type "tuple") none (Data.seq #[(.ref 24)] 0) #[])
def o144_12(P:Pz):=(Obj.mk (.type "builtin_function_or_method") none (Data.fields #[(.builtin "type.__prepare__"), (.type "type")]) #[])
def o145_12(P:Pz):=(Obj.mk (.type "dict") none (Data.dict #[(dn P "__module__" 367 (.str "spinboard.errors" 187)), (dn P "__qualname__" 369 (.str "NotBorne" 368)), (dn P "__firstlineno__" 371 (.int 24 370)), (dn P "__init__" 379 (.ref 156)), (dn P "__static_attributes__" 381 (.ref 157))] 5) #[])
def o146_12(P:Pz):=(sq0 "tuple" 0)
def o147_12(P:Pz):=(Obj.mk .none none (Data.fields #[(.int 26 0), (.int 4 0), (.ref 155)]) #[])
def o148_12(P:Pz):=(cob "NotBorne" 362 "NotBorne" 363 364 24 0 0 0 0 146 false 181 147 .none .none .none 365 24 366)
def o149_12(P:Pz):=(Obj.mk (.type "frame") none Data.plain #[(some (.ref 148)), (some (.ref 3)), (some (.ref 145)), none, (some (.str "spinboard.errors" 187)), none, (some (.ref 0))])
def o150_12(P:Pz):=(sq0 "tuple" 0)
def o151_12(P:Pz):=(nf0)
def o152_12(P:Pz):=(Obj.mk (.type "tuple") none (Data.seq #[(.str "self" 375), (.str "place" 376)] 0) #[])
def o153_12(P:Pz):=(sq0 "tuple" 0)
def o154_12(P:Pz):=(fo1 "__init__" "NotBorne.__init__" (inClass (top 11) 0) 0 0)
def o155_12(P:Pz):=(cob "__init__" 372 "NotBorne.__init__" 373 374 26 2 0 0 3 150 true 181 151 (.ref 152) (.ref 153) (.ref 154) 377 26 378)
def o156_12(P:Pz):=(fo2 "__init__" "NotBorne.__init__" (inClass (top 11) 0) 3 "spinboard.errors" 187 155 0)
def o157_12(P:Pz):=(Obj.mk (.type "tuple") none (Data.seq #[(.str "place" 380)] 0) #[])
def o158_12(P:Pz):=(Obj.mk (.type "dict") none (Data.dict #[(dn P "__module__" 367 (.str "spinboard.errors" 187)), (dn P "__firstlineno__" 371 (.int 24 370)), (dn P "__init__" 379 (.ref 156)), (dn P "__static_attributes__" 381 (.ref 157)), (dn P "__doc__" 382 .none)] 2) #[])
def o159_12(P:Pz):=(Obj.mk (.type "type") none (Data.cls (ClassData.mk "NotBorne" [(.ref 24)] [(.ref 159), (.ref 24), (.type "ValueError"), (.type "Exception"), (.type "BaseException"), (.type "object")] 158 "NotBorne" true [] [] false none false)) #[(some (.ref 143)), none, (some (.str "NotBorne" 360)), (some (.str "NotBorne" 368)), (some (.builtin "ValueError.__new__")), (some (.bool true))])
def o160_12(P:Pz):=(Obj.mk (.type "super") none (Data.fields #[(.ref 159), (.ref 159), (.ref 159)]) #[])
def o161_12(P:Pz):=(Obj.mk (.type "builtin_function_or_method") none (Data.fields #[(.builtin "object.__init_subclass__"), (.ref 159)]) #[])
def T11 (P : Params) : BT := (((((((((((((((((((((((T10 P).ins 3 (o3_12 P)).ins 12 (o12_12 P)).ins 24 (o24_12 P)).ins 143 (o143_12 P)).ins 144 (o144_12 P)).ins 145 (o145_12 P)).ins 146 (o146_12 P)).ins 147 (o147_12 P)).ins 148 (o148_12 P)).ins 149 (o149_12 P)).ins 150 (o150_12 P)).ins 151 (o151_12 P)).ins 152 (o152_12 P)).ins 153 (o153_12 P)).ins 154 (o154_12 P)).ins 155 (o155_12 P)).ins 156 (o156_12 P)).ins 157 (o157_12 P)).ins 158 (o158_12 P)).ins 159 (o159_12 P)).ins 160 (o160_12 P)).ins 161 (o161_12 P))
theorem g10 (p : Program) (b : List Stmt) (w : World) (os : OsState) : segRunT treeTable p w 11 (some (.ref 6)) 1 246 (SharedT.mk (T10 w.params) 143 life (Array.mk []) (Drawn.mk 0 0 0 0) 360 os) (piecesOf l10 en (Code.body b en) (Pos.mk 20 0 23 26) BB) = some (Flow.next, (SharedT.mk (T11 w.params) 162 life (Array.mk []) (Drawn.mk 0 0 0 0) 385 os), Code.body b en, (Pos.mk 24 0 27 26)) := by rw [PySem.W.Fast.te10110043849684766642, PySem.W.Fast.te14364793385576792824]; kernel_rfl
def o3_13(P:Pz):=Obj.mk (.type "dict") none (Data.dict #[(dn P "__name__" 165 (.str "spinboard.amounts" 421)), (dn P "__doc__" 166 .none), (dn P "__package__" 167 .none), (dn P "__loader__" 168 (.builtin "__main__.__loader__#opaque")), (dn P "__spec__" 169 .none), (dn P "__annotations__" 170 (.ref 6)), (dn P "__builtins__" 171 (.ref 4)), (dn P "__file__" 173 (.str "/claim/cut.py" 172)), (dn P "__cached__" 174 .none), (dn P "BoardError" 206 (.ref 24)), (dn P "NoShare" 222 (.ref 37)), (dn P "NoAmount" 238 (.ref 49)), (dn P "NoMark" 254 (.ref 61)), (dn P "NoBoard" 270 (.ref 73)), (dn P "NoMove" 286 (.ref 85)), (dn P "NoCell" 302 (.ref 97)), (dn P "NeverSo" 318 (.ref 109)), (dn P "NoTable" 334 (.ref 121)), (dn P "NoText" 359 (.ref 140)), (dn P "NotBorne" 384 (.ref 159)), (dn P "Unguarded" 411 (.ref 178)), (dn P "is_whole" 420 (.ref 187)), (dn P "halved_out" 436 (.ref 194)), (dn P "plus" 442 (.ref 199)), (dn P "minus" 450 (.ref 206))] 25) #[]
def o12_13(P:Pz):=(Obj.mk .none none (Data.fields #[(.int 2 0), (.int 0 0), (.ref 20), (.int 4 0), (.int 0 0), (.ref 33), (.int 6 0), (.int 0 0), (.ref 45), (.int 8 0), (.int 0 0), (.ref 57), (.int 10 0), (.int 0 0), (.ref 69), (.int 12 0), (.int 0 0), (.ref 81), (.int 14 0), (.int 0 0), (.ref 93), (.int 16 0), (.int 0 0), (.ref 105), (.int 18 0), (.int 0 0), (.ref 117), (.int 20 0), (.int 0 0), (.ref 129), (.int 24 0), (.int 0 0), (.ref 148), (.int 28 0), (.int 0 0), (.ref 167), (.int 34 0), (.int 0 0), (.ref 186), (.int 37 0), (.int 0 0), (.ref 193), (.int 44 0), (.int 0 0), (.ref 198), (.int 50 0), (.int 0 0), (.ref 205)]) #[])
def o24_13(P:Pz):=(Obj.mk (.type "type") none (Data.cls (ClassData.mk "BoardError" [(.type "ValueError")] [(.ref 24), (.type "ValueError"), (.type "Exception"), (.type "BaseException"), (.type "object")] 23 "BoardError" true [] [(.ref 37), (.ref 49), (.ref 61), (.ref 73), (.ref 85), (.ref 97), (.ref 109), (.ref 121), (.ref 140), (.ref 159), (.ref 178)] false none false)) #[(some (.ref 15)), none, (some (.str "BoardError" 189)), (some (.str "BoardError" 197)), (some (.builtin "ValueError.__new__")), (some (.bool true))])
def o162_13(P:Pz):=(Obj.mk (.type "tuple") none (Data.seq #[(.ref 24)] 0) #[])
def o163_13(P:Pz):=(Obj.mk (.type "builtin_function_or_method") none (Data.fields #[(.builtin "type.__prepare__"), (.type "type")]) #[])
def o164_13(P:Pz):=(Obj.mk (.type "dict") none (Data.dict #[(dn P "__module__" 392 (.str "spinboard.errors" 187)), (dn P "__qualname__" 394 (.str "Unguarded" 393)), (dn P "__firstlineno__" 396 (.int 28 395)), (dn P "__init__" 405 (.ref 175)), (dn P "__static_attributes__" 408 (.ref 176))] 5) #[])
def o165_13(P:Pz):=(sq0 "tuple" 0)
def o166_13(P:Pz):=(Obj.mk .none none (Data.fields #[(.int 30 0), (.int 4 0), (.ref 174)]) #[])
def o167_13(P:Pz):=(cob "Unguarded" 387 "Unguarded" 388 389 28 0 0 0 0 165 false 181 166 .none .none .none 390 28 391)
def o168_13(P:Pz):=(Obj.mk (.type "frame") none Data.plain #[(some (.ref 167)), (some (.ref 3)), (some (.ref 164)), none, (some (.str "spinboard.errors" 187)), none, (some (.ref 0))])
def o169_13(P:Pz):=(sq0 "tuple" 0)
def o170_13(P:Pz):=(nf0)
def o171_13(P:Pz):=(Obj.mk (.type "tuple") none (Data.seq #[(.str "self" 400), (.str "one" 401), (.str "other" 402)] 0) #[])
def o172_13(P:Pz):=(sq0 "tuple" 0)
def o173_13(P:Pz):=(fo1 "__init__" "Unguarded.__init__" (inClass (top 12) 0) 0 0)
def o174_13(P:Pz):=(cob "__init__" 397 "Unguarded.__init__" 398 399 30 3 0 0 3 169 true 181 170 (.ref 171) (.ref 172) (.ref 173) 403 30 404)
def o175_13(P:Pz):=(fo2 "__init__" "Unguarded.__init__" (inClass (top 12) 0) 3 "spinboard.errors" 187 174 0)
def o176_13(P:Pz):=(Obj.mk (.type "tuple") none (Data.seq #[(.str "one" 406), (.str "other" 407)] 0) #[])
def o177_13(P:Pz):=(Obj.mk (.type "dict") none (Data.dict #[(dn P "__module__" 392 (.str "spinboard.errors" 187)), (dn P "__firstlineno__" 396 (.int 28 395)), (dn P "__init__" 405 (.ref 175)), (dn P "__static_attributes__" 408 (.ref 176)), (dn P "__doc__" 409 .none)] 2) #[])
def o178_13(P:Pz):=(Obj.mk (.type "type") none (Data.cls (ClassData.mk "Unguarded" [(.ref 24)] [(.ref 178), (.ref 24), (.type "ValueError"), (.type "Exception"), (.type "BaseException"), (.type "object")] 177 "Unguarded" true [] [] false none false)) #[(some (.ref 162)), none, (some (.str "Unguarded" 385)), (some (.str "Unguarded" 393)), (some (.builtin "ValueError.__new__")), (some (.bool true))])
def o179_13(P:Pz):=(Obj.mk (.type "super") none (Data.fields #[(.ref 178), (.ref 178), (.ref 178)]) #[])
def o180_13(P:Pz):=(Obj.mk (.type "builtin_function_or_method") none (Data.fields #[(.builtin "object.__init_subclass__"), (.ref 178)]) #[])
def o181_13(P:Pz):=(sq0 "tuple" 0)
def o182_13(P:Pz):=(nf0)
def o183_13(P:Pz):=(Obj.mk (.type "tuple") none (Data.seq #[(.str "thing" 417)] 0) #[])
def o184_13(P:Pz):=(sq0 "tuple" 0)
def o185_13(P:Pz):=(fo1 "is_whole" "is_whole" (top 14) 0 0)
def o186_13(P:Pz):=(cob "is_whole" 414 "is_whole" 415 416 34 1 0 0 3 181 true 181 182 (.ref 183) (.ref 184) (.ref 185) 418 34 419)
def o187_13(P:Pz):=(fo2 "is_whole" "is_whole" (top 14) 3 "spinboard.shares" 412 186 0)
def o188_13(P:Pz):=(sq0 "tuple" 0)
def o189_13(P:Pz):=(nf0)
def o190_13(P:Pz):=(Obj.mk (.type "tuple") none (Data.seq #[(.str "a" 426), (.str "b" 427), (.str "c" 428), (.str "d" 429), (.str "h" 430), (.str "places" 431), (.str "lowest" 432), (.str "less" 433)] 0) #[])
def o191_13(P:Pz):=(sq0 "tuple" 0)
def o192_13(P:Pz):=(fo1 "halved_out" "halved_out" (top 16) 0 0)
def o193_13(P:Pz):=(cob "halved_out" 423 "halved_out" 424 425 37 5 0 0 3 188 true 181 189 (.ref 190) (.ref 191) (.ref 192) 434 37 435)
def o194_13(P:Pz):=(fo2 "halved_out" "halved_out" (top 16) 3 "spinboard.amounts" 421 193 0)
def o195_13(P:Pz):=(sq0 "tuple" 0)
def o196_13(P:Pz):=(nf0)
def o197_13(P:Pz):=(fo1 "plus" "plus" (top 17) 0 0)
def o198_13(P:Pz):=(cob "plus" 437 "plus" 438 439 44 2 0 0 3 195 true 181 196 .none .none (.ref 197) 440 44 441)
def o199_13(P:Pz):=(fo2 "plus" "plus" (top 17) 3 "spinboard.amounts" 421 198 0)
def o200_13(P:Pz):=(sq0 "tuple" 0)
def o201_13(P:Pz):=(nf0)
def o202_13(P:Pz):=(Obj.mk (.type "tuple") none (Data.seq #[(.str "one" 446), (.str "other" 447)] 0) #[])
def o203_13(P:Pz):=(sq0 "tuple" 0)
def o204_13(P:Pz):=(fo1 "minus" "minus" (top 18) 0 0)
def o205_13(P:Pz):=(cob "minus" 443 "minus" 444 445 50 2 0 0 3 200 true 181 201 (.ref 202) (.ref 203) (.ref 204) 448 50 449)
def o206_13(P:Pz):=(fo2 "minus" "minus" (top 18) 3 "spinboard.amounts" 421 205 0)
def T12 (P : Params) : BT := (((((((((((((((((((((((((((((((((((((((((((((((((T11 P).ins 3 (o3_13 P)).ins 12 (o12_13 P)).ins 24 (o24_13 P)).ins 162 (o162_13 P)).ins 163 (o163_13 P)).ins 164 (o164_13 P)).ins 165 (o165_13 P)).ins 166 (o166_13 P)).ins 167 (o167_13 P)).ins 168 (o168_13 P)).ins 169 (o169_13 P)).ins 170 (o170_13 P)).ins 171 (o171_13 P)).ins 172 (o172_13 P)).ins 173 (o173_13 P)).ins 174 (o174_13 P)).ins 175 (o175_13 P)).ins 176 (o176_13 P)).ins 177 (o177_13 P)).ins 178 (o178_13 P)).ins 179 (o179_13 P)).ins 180 (o180_13 P)).ins 181 (o181_13 P)).ins 182 (o182_13 P)).ins 183 (o183_13 P)).ins 184 (o184_13 P)).ins 185 (o185_13 P)).ins 186 (o186_13 P)).ins 187 (o187_13 P)).ins 188 (o188_13 P)).ins 189 (o189_13 P)).ins 190 (o190_13 P)).ins 191 (o191_13 P)).ins 192 (o192_13 P)).ins 193 (o193_13 P)).ins 194 (o194_13 P)).ins 195 (o195_13 P)).ins 196 (o196_13 P)).ins 197 (o197_13 P)).ins 198 (o198_13 P)).ins 199 (o199_13 P)).ins 200 (o200_13 P)).ins 201 (o201_13 P)).ins 202 (o202_13 P)).ins 203 (o203_13 P)).ins 204 (o204_13 P)).ins 205 (o205_13 P)).ins 206 (o206_13 P))
theorem g11 (p : Program) (b : List Stmt) (w : World) (os : OsState) : segRunT treeTable p w 11 (some (.ref 6)) 1 387 (SharedT.mk (T11 w.params) 162 life (Array.mk []) (Drawn.mk 0 0 0 0) 385 os) (piecesOf l11 en (Code.body b en) (Pos.mk 24 0 27 26) BB) = some (Flow.next, (SharedT.mk (T12 w.params) 207 life (Array.mk []) (Drawn.mk 0 0 0 0) 451 os), Code.body b en, (Pos.mk 50 0 51 36)) := by rw [PySem.W.Fast.te10110043849684766642, PySem.W.Fast.te14364793385576792824]; kernel_rfl
def o3_14(P:Pz):=Obj.mk (.type "dict") none (Data.dict #[(dn P "__name__" 165 (.str "spinboard.moves" 523)), (dn P "__doc__" 166 .none), (dn P "__package__" 167 .none), (dn P "__loader__" 168 (.builtin "__main__.__loader__#opaque")), (dn P "__spec__" 169 .none), (dn P "__annotations__" 170 (.ref 6)), (dn P "__builtins__" 171 (.ref 4)), (dn P "__file__" 173 (.str "/claim/cut.py" 172)), (dn P "__cached__" 174 .none), (dn P "BoardError" 206 (.ref 24)), (dn P "NoShare" 222 (.ref 37)), (dn P "NoAmount" 238 (.ref 49)), (dn P "NoMark" 254 (.ref 61)), (dn P "NoBoard" 270 (.ref 73)), (dn P "NoMove" 286 (.ref 85)), (dn P "NoCell" 302 (.ref 97)), (dn P "NeverSo" 318 (.ref 109)), (dn P "NoTable" 334 (.ref 121)), (dn P "NoText" 359 (.ref 140)), (dn P "NotBorne" 384 (.ref 159)), (dn P "Unguarded" 411 (.ref 178)), (dn P "is_whole" 420 (.ref 187)), (dn P "halved_out" 436 (.ref 194)), (dn P "plus" 442 (.ref 199)), (dn P "minus" 450 (.ref 206)), (dn P "spun" 460 (.ref 213)), (dn P "spun_once" 467 (.ref 220)), (dn P "rooted" 474 (.ref 227)), (dn P "is_word" 484 (.ref 234)), (dn P "NOUGHT" 492 (.ref 235)), (dn P "ONE" 498 (.ref 236)), (dn P "MOST_CELLS" 500 (.int 6 499)), (dn P "start" 507 (.ref 242)), (dn P "check_beginning" 515 (.ref 249)), (dn P "cells_of" 522 (.ref 256)), (dn P "NUMBERS_BEHIND" 546 (.ref 257))] 36) #[]
def o12_14(P:Pz):=(Obj.mk .none none (Data.fields #[(.int 2 0), (.int 0 0), (.ref 20), (.int 4 0), (.int 0 0), (.ref 33), (.int 6 0), (.int 0 0), (.ref 45), (.int 8 0), (.int 0 0), (.ref 57), (.int 10 0), (.int 0 0), (.ref 69), (.int 12 0), (.int 0 0), (.ref 81), (.int 14 0), (.int 0 0), (.ref 93), (.int 16 0), (.int 0 0), (.ref 105), (.int 18 0), (.int 0 0), (.ref 117), (.int 20 0), (.int 0 0), (.ref 129), (.int 24 0), (.int 0 0), (.ref 148), (.int 28 0), (.int 0 0), (.ref 167), (.int 34 0), (.int 0 0), (.ref 186), (.int 37 0), (.int 0 0), (.ref 193), (.int 44 0), (.int 0 0), (.ref 198), (.int 50 0), (.int 0 0), (.ref 205), (.int 52 0), (.int 0 0), (.ref 212), (.int 57 0), (.int 0 0), (.ref 219), (.int 59 0), (.int 0 0), (.ref 226), (.int 62 0), (.int 0 0), (.ref 233), (.int 70 0), (.int 0 0), (.ref 241), (.int 73 0), (.int 0 0), (.ref 248), (.int 78 0), (.int 0 0), (.ref 255)]) #[])
def o207_14(P:Pz):=(sq0 "tuple" 0)
def o208_14(P:Pz):=(nf0)
def o209_14(P:Pz):=(Obj.mk (.type "tuple") none (Data.seq #[(.str "one" 454), (.str "k" 455), (.str "turning" 456), (.str "step" 457)] 0) #[])
def o210_14(P:Pz):=(sq0 "tuple" 0)
def o211_14(P:Pz):=(fo1 "spun" "spun" (top 19) 0 0)
def o212_14(P:Pz):=(cob "spun" 451 "spun" 452 453 52 2 0 0 3 207 true 181 208 (.ref 209) (.ref 210) (.ref 211) 458 52 459)
def o213_14(P:Pz):=(fo2 "spun" "spun" (top 19) 3 "spinboard.amounts" 421 212 0)
def o214_14(P:Pz):=(sq0 "tuple" 0)
def o215_14(P:Pz):=(nf0)
def o216_14(P:Pz):=(Obj.mk (.type "tuple") none (Data.seq #[(.str "one" 464)] 0) #[])
def o217_14(P:Pz):=(sq0 "tuple" 0)
def o218_14(P:Pz):=(fo1 "spun_once" "spun_once" (top 20) 0 0)
def o219_14(P:Pz):=(cob "spun_once" 461 "spun_once" 462 463 57 1 0 0 3 214 true 181 215 (.ref 216) (.ref 217) (.ref 218) 465 57 466)
def o220_14(P:Pz):=(fo2 "spun_once" "spun_once" (top 20) 3 "spinboard.amounts" 421 219 0)
def o221_14(P:Pz):=(sq0 "tuple" 0)
def o222_14(P:Pz):=(nf0)
def o223_14(P:Pz):=(Obj.mk (.type "tuple") none (Data.seq #[(.str "one" 471)] 0) #[])
def o224_14(P:Pz):=(sq0 "tuple" 0)
def o225_14(P:Pz):=(fo1 "rooted" "rooted" (top 21) 0 0)
def o226_14(P:Pz):=(cob "rooted" 468 "rooted" 469 470 59 1 0 0 3 221 true 181 222 (.ref 223) (.ref 224) (.ref 225) 472 59 473)
def o227_14(P:Pz):=(fo2 "rooted" "rooted" (top 21) 3 "spinboard.amounts" 421 226 0)
def o228_14(P:Pz):=(sq0 "tuple" 0)
def o229_14(P:Pz):=(nf0)
def o230_14(P:Pz):=(Obj.mk (.type "tuple") none (Data.seq #[(.str "thing" 480), (.str "cells" 481)] 0) #[])
def o231_14(P:Pz):=(sq0 "tuple" 0)
def o232_14(P:Pz):=(fo1 "is_word" "is_word" (top 23) 0 0)
def o233_14(P:Pz):=(cob "is_word" 477 "is_word" 478 479 62 2 0 0 3 228 true 181 229 (.ref 230) (.ref 231) (.ref 232) 482 62 483)
def o234_14(P:Pz):=(fo2 "is_word" "is_word" (top 23) 3 "spinboard.marks" 475 233 0)
def o235_14(P:Pz):=(Obj.mk (.type "tuple") none (Data.seq #[(.int 0 487), (.int 0 488), (.int 0 489), (.int 0 490), (.int 0 491)] 0) #[])
def o236_14(P:Pz):=(Obj.mk (.type "tuple") none (Data.seq #[(.int 1 493), (.int 0 494), (.int 0 495), (.int 0 496), (.int 0 497)] 0) #[])
def o237_14(P:Pz):=(Obj.mk (.type "tuple") none (Data.seq #[(.int 0 501)] 0) #[])
def o238_14(P:Pz):=(sq0 "tuple" 0)
def o239_14(P:Pz):=(nf0)
def o240_14(P:Pz):=(fo1 "start" "start" (top 28) 0 0)
def o241_14(P:Pz):=(cob "start" 502 "start" 503 504 70 2 0 0 3 238 true 181 239 .none .none (.ref 240) 505 70 506)
def o242_14(P:Pz):=(Obj.mk (.type "function") none (Data.func (FuncData.mk "start" "start" (defArgs (top 28)) (FuncBody.stmts (defBody (top 28))) (defScope (top 28)) 3 [] (.ref 237) .none .none (.str "spinboard.boards" 485) none (.ref 241) .none 0)) #[])
def o243_14(P:Pz):=(sq0 "tuple" 0)
def o244_14(P:Pz):=(nf0)
def o245_14(P:Pz):=(Obj.mk (.type "tuple") none (Data.seq #[(.str "cells" 511), (.str "word" 512)] 0) #[])
def o246_14(P:Pz):=(sq0 "tuple" 0)
def o247_14(P:Pz):=(fo1 "check_beginning" "check_beginning" (top 29) 0 0)
def o248_14(P:Pz):=(cob "check_beginning" 508 "check_beginning" 509 510 73 2 0 0 3 243 true 181 244 (.ref 245) (.ref 246) (.ref 247) 513 73 514)
def o249_14(P:Pz):=(fo2 "check_beginning" "check_beginning" (top 29) 3 "spinboard.boards" 485 248 0)
def o250_14(P:Pz):=(sq0 "tuple" 0)
def o251_14(P:Pz):=(nf0)
def o252_14(P:Pz):=(Obj.mk (.type "tuple") none (Data.seq #[(.str "board" 519)] 0) #[])
def o253_14(P:Pz):=(sq0 "tuple" 0)
def o254_14(P:Pz):=(fo1 "cells_of" "cells_of" (top 30) 0 0)
def o255_14(P:Pz):=(cob "cells_of" 516 "cells_of" 517 518 78 1 0 0 3 250 true 181 251 (.ref 252) (.ref 253) (.ref 254) 520 78 521)
def o256_14(P:Pz):=(fo2 "cells_of" "cells_of" (top 30) 3 "spinboard.boards" 485 255 0)
def o257_14(P:Pz):=(Obj.mk (.type "dict") none (Data.dict #[(dn P "flip" 525 (.int 1 526)), (dn P "mix" 527 (.int 1 528)), (dn P "turn" 529 (.int 2 530)), (dn P "if" 531 (.int 2 532)), (dn P "pair" 533 (.int 2 534)), (dn P "swap" 535 (.int 2 536)), (dn P "cross" 537 (.int 3 538))] 7) #[])
def T13 (P : Params) : BT := ((((((((((((((((((((((((((((((((((((((((((((((((((((((T12 P).ins 3 (o3_14 P)).ins 12 (o12_14 P)).ins 207 (o207_14 P)).ins 208 (o208_14 P)).ins 209 (o209_14 P)).ins 210 (o210_14 P)).ins 211 (o211_14 P)).ins 212 (o212_14 P)).ins 213 (o213_14 P)).ins 214 (o214_14 P)).ins 215 (o215_14 P)).ins 216 (o216_14 P)).ins 217 (o217_14 P)).ins 218 (o218_14 P)).ins 219 (o219_14 P)).ins 220 (o220_14 P)).ins 221 (o221_14 P)).ins 222 (o222_14 P)).ins 223 (o223_14 P)).ins 224 (o224_14 P)).ins 225 (o225_14 P)).ins 226 (o226_14 P)).ins 227 (o227_14 P)).ins 228 (o228_14 P)).ins 229 (o229_14 P)).ins 230 (o230_14 P)).ins 231 (o231_14 P)).ins 232 (o232_14 P)).ins 233 (o233_14 P)).ins 234 (o234_14 P)).ins 235 (o235_14 P)).ins 236 (o236_14 P)).ins 237 (o237_14 P)).ins 238 (o238_14 P)).ins 239 (o239_14 P)).ins 240 (o240_14 P)).ins 241 (o241_14 P)).ins 242 (o242_14 P)).ins 243 (o243_14 P)).ins 244 (o244_14 P)).ins 245 (o245_14 P)).ins 246 (o246_14 P)).ins 247 (o247_14 P)).ins 248 (o248_14 P)).ins 249 (o249_14 P)).ins 250 (o250_14 P)).ins 251 (o251_14 P)).ins 252 (o252_14 P)).ins 253 (o253_14 P)).ins 254 (o254_14 P)).ins 255 (o255_14 P)).ins 256 (o256_14 P)).ins 257 (o257_14 P))
theorem g12 (p : Program) (b : List Stmt) (w : World) (os : OsState) : segRunT treeTable p w 11 (some (.ref 6)) 1 389 (SharedT.mk (T12 w.params) 207 life (Array.mk []) (Drawn.mk 0 0 0 0) 451 os) (piecesOf l12 en (Code.body b en) (Pos.mk 50 0 51 36) BB) = some (Flow.next, (SharedT.mk (T13 w.params) 258 life (Array.mk []) (Drawn.mk 0 0 0 0) 547 os), Code.body b en, (Pos.mk 81 0 81 14)) :=
  (byRow2 "special-get-raises" (P := fun w => (fun w : World => segRunT treeTable p w 11 (some (.ref 6)) 1 389 (SharedT.mk (T12 w.params) 207 life (Array.mk []) (Drawn.mk 0 0 0 0) 451 os) (piecesOf l12 en (Code.body b en) (Pos.mk 50 0 51 36) BB) = some (Flow.next, (SharedT.mk (T13 w.params) 258 life (Array.mk []) (Drawn.mk 0 0 0 0) 547 os), Code.body b en, (Pos.mk 81 0 81 14))) w) (fun w => by show (fun w : World => segRunT treeTable p w 11 (some (.ref 6)) 1 389 (SharedT.mk (T12 w.params) 207 life (Array.mk []) (Drawn.mk 0 0 0 0) 451 os) (piecesOf l12 en (Code.body b en) (Pos.mk 50 0 51 36) BB) = some (Flow.next, (SharedT.mk (T13 w.params) 258 life (Array.mk []) (Drawn.mk 0 0 0 0) 547 os), Code.body b en, (Pos.mk 81 0 81 14))) (World.withFollow w "special-get-raises" false); rw [PySem.W.Fast.te10110043849684766642, PySem.W.Fast.te14364793385576792824]; kernel_rfl) (fun w => by show (fun w : World => segRunT treeTable p w 11 (some (.ref 6)) 1 389 (SharedT.mk (T12 w.params) 207 life (Array.mk []) (Drawn.mk 0 0 0 0) 451 os) (piecesOf l12 en (Code.body b en) (Pos.mk 50 0 51 36) BB) = some (Flow.next, (SharedT.mk (T13 w.params) 258 life (Array.mk []) (Drawn.mk 0 0 0 0) 547 os), Code.body b en, (Pos.mk 81 0 81 14))) (World.withFollow w "special-get-raises" true); rw [PySem.W.Fast.te10110043849684766642, PySem.W.Fast.te14364793385576792824]; kernel_rfl)) w
def o3_15(P:Pz):=Obj.mk (.type "dict") none (Data.dict #[(dn P "__name__" 165 (.str "law_spinboard_k36_moves_refused" 621)), (dn P "__doc__" 166 .none), (dn P "__package__" 167 .none), (dn P "__loader__" 168 (.builtin "__main__.__loader__#opaque")), (dn P "__spec__" 169 .none), (dn P "__annotations__" 170 (.ref 6)), (dn P "__builtins__" 171 (.ref 4)), (dn P "__file__" 173 (.str "/claim/cut.py" 172)), (dn P "__cached__" 174 .none), (dn P "BoardError" 206 (.ref 24)), (dn P "NoShare" 222 (.ref 37)), (dn P "NoAmount" 238 (.ref 49)), (dn P "NoMark" 254 (.ref 61)), (dn P "NoBoard" 270 (.ref 73)), (dn P "NoMove" 286 (.ref 85)), (dn P "NoCell" 302 (.ref 97)), (dn P "NeverSo" 318 (.ref 109)), (dn P "NoTable" 334 (.ref 121)), (dn P "NoText" 359 (.ref 140)), (dn P "NotBorne" 384 (.ref 159)), (dn P "Unguarded" 411 (.ref 178)), (dn P "is_whole" 420 (.ref 187)), (dn P "halved_out" 436 (.ref 194)), (dn P "plus" 442 (.ref 199)), (dn P "minus" 450 (.ref 206)), (dn P "spun" 460 (.ref 213)), (dn P "spun_once" 467 (.ref 220)), (dn P "rooted" 474 (.ref 227)), (dn P "is_word" 484 (.ref 234)), (dn P "NOUGHT" 492 (.ref 235)), (dn P "ONE" 498 (.ref 236)), (dn P "MOST_CELLS" 500 (.int 6 499)), (dn P "start" 507 (.ref 242)), (dn P "check_beginning" 515 (.ref 249)), (dn P "cells_of" 522 (.ref 256)), (dn P "NUMBERS_BEHIND" 546 (.ref 257)), (dn P "check_move" 552 (.ref 262)), (dn P "has_move_form" 558 (.ref 267)), (dn P "named_cells" 565 (.ref 274)), (dn P "turned" 571 (.ref 279)), (dn P "mixed" 577 (.ref 284)), (dn P "mixed_at" 586 (.ref 291)), (dn P "spun_where" 592 (.ref 296)), (dn P "word_behind" 598 (.ref 301)), (dn P "exchanged" 608 (.ref 308)), (dn P "run" 620 (.ref 315)), (dn P "_law_cell_at" 630 (.ref 322)), (dn P "_law_whole" 637 (.ref 329)), (dn P "_law_move_by" 643 (.ref 334))] 49) #[]
def o12_15(P:Pz):=(Obj.mk .none none (Data.fields #[(.int 2 0), (.int 0 0), (.ref 20), (.int 4 0), (.int 0 0), (.ref 33), (.int 6 0), (.int 0 0), (.ref 45), (.int 8 0), (.int 0 0), (.ref 57), (.int 10 0), (.int 0 0), (.ref 69), (.int 12 0), (.int 0 0), (.ref 81), (.int 14 0), (.int 0 0), (.ref 93), (.int 16 0), (.int 0 0), (.ref 105), (.int 18 0), (.int 0 0), (.ref 117), (.int 20 0), (.int 0 0), (.ref 129), (.int 24 0), (.int 0 0), (.ref 148), (.int 28 0), (.int 0 0), (.ref 167), (.int 34 0), (.int 0 0), (.ref 186), (.int 37 0), (.int 0 0), (.ref 193), (.int 44 0), (.int 0 0), (.ref 198), (.int 50 0), (.int 0 0), (.ref 205), (.int 52 0), (.int 0 0), (.ref 212), (.int 57 0), (.int 0 0), (.ref 219), (.int 59 0), (.int 0 0), (.ref 226), (.int 62 0), (.int 0 0), (.ref 233), (.int 70 0), (.int 0 0), (.ref 241), (.int 73 0), (.int 0 0), (.ref 248), (.int 78 0), (.int 0 0), (.ref 255), (.int 82 0), (.int 0 0), (.ref 261), (.int 91 0), (.int 0 0), (.ref 266), (.int 101 0), (.int 0 0), (.ref 273), (.int 103 0), (.int 0 0), (.ref 278), (.int 112 0), (.int 0 0), (.ref 283), (.int 114 0), (.int 0 0), (.ref 290), (.int 118 0), (.int 0 0), (.ref 295), (.int 120 0), (.int 0 0), (.ref 300), (.int 131 0), (.int 0 0), (.ref 307), (.int 135 0), (.int 0 0), (.ref 314), (.int 141 0), (.int 0 0), (.ref 321), (.int 145 0), (.int 0 0), (.ref 328), (.int 147 0), (.int 0 0), (.ref 333)]) #[])
def o258_15(P:Pz):=(sq0 "tuple" 0)
def o259_15(P:Pz):=(nf0)
def o260_15(P:Pz):=(fo1 "check_move" "check_move" (top 33) 0 0)
def o261_15(P:Pz):=(cob "check_move" 547 "check_move" 548 549 82 2 0 0 3 258 true 181 259 .none .none (.ref 260) 550 82 551)
def o262_15(P:Pz):=(fo2 "check_move" "check_move" (top 33) 3 "spinboard.moves" 523 261 0)
def o263_15(P:Pz):=(sq0 "tuple" 0)
def o264_15(P:Pz):=(nf0)
def o265_15(P:Pz):=(fo1 "has_move_form" "has_move_form" (top 34) 0 0)
def o266_15(P:Pz):=(cob "has_move_form" 553 "has_move_form" 554 555 91 1 0 0 3 263 true 181 264 .none .none (.ref 265) 556 91 557)
def o267_15(P:Pz):=(fo2 "has_move_form" "has_move_form" (top 34) 3 "spinboard.moves" 523 266 0)
def o268_15(P:Pz):=(sq0 "tuple" 0)
def o269_15(P:Pz):=(nf0)
def o270_15(P:Pz):=(Obj.mk (.type "tuple") none (Data.seq #[(.str "move" 562)] 0) #[])
def o271_15(P:Pz):=(sq0 "tuple" 0)
def o272_15(P:Pz):=(fo1 "named_cells" "named_cells" (top 35) 0 0)
def o273_15(P:Pz):=(cob "named_cells" 559 "named_cells" 560 561 101 1 0 0 3 268 true 181 269 (.ref 270) (.ref 271) (.ref 272) 563 101 564)
def o274_15(P:Pz):=(fo2 "named_cells" "named_cells" (top 35) 3 "spinboard.moves" 523 273 0)
def o275_15(P:Pz):=(sq0 "tuple" 0)
def o276_15(P:Pz):=(nf0)
def o277_15(P:Pz):=(fo1 "turned" "turned" (top 36) 0 0)
def o278_15(P:Pz):=(cob "turned" 566 "turned" 567 568 103 2 0 0 3 275 true 181 276 .none .none (.ref 277) 569 103 570)
def o279_15(P:Pz):=(fo2 "turned" "turned" (top 36) 3 "spinboard.moves" 523 278 0)
def o280_15(P:Pz):=(sq0 "tuple" 0)
def o281_15(P:Pz):=(nf0)
def o282_15(P:Pz):=(fo1 "mixed" "mixed" (top 37) 0 0)
def o283_15(P:Pz):=(cob "mixed" 572 "mixed" 573 574 112 2 0 0 3 280 true 181 281 .none .none (.ref 282) 575 112 576)
def o284_15(P:Pz):=(fo2 "mixed" "mixed" (top 37) 3 "spinboard.moves" 523 283 0)
def o285_15(P:Pz):=(sq0 "tuple" 0)
def o286_15(P:Pz):=(nf0)
def o287_15(P:Pz):=(Obj.mk (.type "tuple") none (Data.seq #[(.str "board" 581), (.str "word" 582), (.str "bit" 583)] 0) #[])
def o288_15(P:Pz):=(sq0 "tuple" 0)
def o289_15(P:Pz):=(fo1 "mixed_at" "mixed_at" (top 38) 0 0)
def o290_15(P:Pz):=(cob "mixed_at" 578 "mixed_at" 579 580 114 3 0 0 3 285 true 181 286 (.ref 287) (.ref 288) (.ref 289) 584 114 585)
def o291_15(P:Pz):=(fo2 "mixed_at" "mixed_at" (top 38) 3 "spinboard.moves" 523 290 0)
def o292_15(P:Pz):=(sq0 "tuple" 0)
def o293_15(P:Pz):=(nf0)
def o294_15(P:Pz):=(fo1 "spun_where" "spun_where" (top 39) 0 0)
def o295_15(P:Pz):=(cob "spun_where" 587 "spun_where" 588 589 118 3 0 0 3 292 true 181 293 .none .none (.ref 294) 590 118 591)
def o296_15(P:Pz):=(fo2 "spun_where" "spun_where" (top 39) 3 "spinboard.moves" 523 295 0)
def o297_15(P:Pz):=(sq0 "tuple" 0)
def o298_15(P:Pz):=(nf0)
def o299_15(P:Pz):=(fo1 "word_behind" "word_behind" (top 40) 0 0)
def o300_15(P:Pz):=(cob "word_behind" 593 "word_behind" 594 595 120 2 0 0 3 297 true 181 298 .none .none (.ref 299) 596 120 597)
def o301_15(P:Pz):=(fo2 "word_behind" "word_behind" (top 40) 3 "spinboard.moves" 523 300 0)
def o302_15(P:Pz):=(sq0 "tuple" 0)
def o303_15(P:Pz):=(nf0)
def o304_15(P:Pz):=(Obj.mk (.type "tuple") none (Data.seq #[(.str "word" 602), (.str "bit" 603), (.str "other" 604), (.str "both" 605)] 0) #[])
def o305_15(P:Pz):=(sq0 "tuple" 0)
def o306_15(P:Pz):=(fo1 "exchanged" "exchanged" (top 41) 0 0)
def o307_15(P:Pz):=(cob "exchanged" 599 "exchanged" 600 601 131 3 0 0 3 302 true 181 303 (.ref 304) (.ref 305) (.ref 306) 606 131 607)
def o308_15(P:Pz):=(fo2 "exchanged" "exchanged" (top 41) 3 "spinboard.moves" 523 307 0)
def o309_15(P:Pz):=(sq0 "tuple" 0)
def o310_15(P:Pz):=(nf0)
def o311_15(P:Pz):=(Obj.mk (.type "tuple") none (Data.seq #[(.str "board" 614), (.str "row" 615), (.str "behind" 616), (.str "move" 617)] 0) #[])
def o312_15(P:Pz):=(sq0 "tuple" 0)
def o313_15(P:Pz):=(fo1 "run" "run" (top 43) 0 0)
def o314_15(P:Pz):=(cob "run" 611 "run" 612 613 135 2 0 0 3 309 true 181 310 (.ref 311) (.ref 312) (.ref 313) 618 135 619)
def o315_15(P:Pz):=(fo2 "run" "run" (top 43) 3 "spinboard.rows" 609 314 0)
def o316_15(P:Pz):=(sq0 "tuple" 0)
def o317_15(P:Pz):=(nf0)
def o318_15(P:Pz):=(Obj.mk (.type "tuple") none (Data.seq #[(.str "_law_script" 626), (.str "_law_k" 627)] 0) #[])
def o319_15(P:Pz):=(sq0 "tuple" 0)
def o320_15(P:Pz):=(fo1 "_law_cell_at" "_law_cell_at" (top 45) 0 0)
def o321_15(P:Pz):=(cob "_law_cell_at" 623 "_law_cell_at" 624 625 141 2 0 0 3 316 true 181 317 (.ref 318) (.ref 319) (.ref 320) 628 141 629)
def o322_15(P:Pz):=(fo2 "_law_cell_at" "_law_cell_at" (top 45) 3 "law_spinboard_k36_moves_refused" 621 321 0)
def o323_15(P:Pz):=(sq0 "tuple" 0)
def o324_15(P:Pz):=(nf0)
def o325_15(P:Pz):=(Obj.mk (.type "tuple") none (Data.seq #[(.str "_law_found" 634)] 0) #[])
def o326_15(P:Pz):=(sq0 "tuple" 0)
def o327_15(P:Pz):=(fo1 "_law_whole" "_law_whole" (top 46) 0 0)
def o328_15(P:Pz):=(cob "_law_whole" 631 "_law_whole" 632 633 145 1 0 0 3 323 true 181 324 (.ref 325) (.ref 326) (.ref 327) 635 145 636)
def o329_15(P:Pz):=(fo2 "_law_whole" "_law_whole" (top 46) 3 "law_spinboard_k36_moves_refused" 621 328 0)
def o330_15(P:Pz):=(sq0 "tuple" 0)
def o331_15(P:Pz):=(nf0)
def o332_15(P:Pz):=(fo1 "_law_move_by" "_law_move_by" (top 47) 0 0)
def o333_15(P:Pz):=(cob "_law_move_by" 638 "_law_move_by" 639 640 147 2 0 0 3 330 true 181 331 .none .none (.ref 332) 641 147 642)
def o334_15(P:Pz):=(fo2 "_law_move_by" "_law_move_by" (top 47) 3 "law_spinboard_k36_moves_refused" 621 333 0)
def T14 (P : Params) : BT := ((((((((((((((((((((((((((((((((((((((((((((((((((((((((((((((((((((((((((((((((T13 P).ins 3 (o3_15 P)).ins 12 (o12_15 P)).ins 258 (o258_15 P)).ins 259 (o259_15 P)).ins 260 (o260_15 P)).ins 261 (o261_15 P)).ins 262 (o262_15 P)).ins 263 (o263_15 P)).ins 264 (o264_15 P)).ins 265 (o265_15 P)).ins 266 (o266_15 P)).ins 267 (o267_15 P)).ins 268 (o268_15 P)).ins 269 (o269_15 P)).ins 270 (o270_15 P)).ins 271 (o271_15 P)).ins 272 (o272_15 P)).ins 273 (o273_15 P)).ins 274 (o274_15 P)).ins 275 (o275_15 P)).ins 276 (o276_15 P)).ins 277 (o277_15 P)).ins 278 (o278_15 P)).ins 279 (o279_15 P)).ins 280 (o280_15 P)).ins 281 (o281_15 P)).ins 282 (o282_15 P)).ins 283 (o283_15 P)).ins 284 (o284_15 P)).ins 285 (o285_15 P)).ins 286 (o286_15 P)).ins 287 (o287_15 P)).ins 288 (o288_15 P)).ins 289 (o289_15 P)).ins 290 (o290_15 P)).ins 291 (o291_15 P)).ins 292 (o292_15 P)).ins 293 (o293_15 P)).ins 294 (o294_15 P)).ins 295 (o295_15 P)).ins 296 (o296_15 P)).ins 297 (o297_15 P)).ins 298 (o298_15 P)).ins 299 (o299_15 P)).ins 300 (o300_15 P)).ins 301 (o301_15 P)).ins 302 (o302_15 P)).ins 303 (o303_15 P)).ins 304 (o304_15 P)).ins 305 (o305_15 P)).ins 306 (o306_15 P)).ins 307 (o307_15 P)).ins 308 (o308_15 P)).ins 309 (o309_15 P)).ins 310 (o310_15 P)).ins 311 (o311_15 P)).ins 312 (o312_15 P)).ins 313 (o313_15 P)).ins 314 (o314_15 P)).ins 315 (o315_15 P)).ins 316 (o316_15 P)).ins 317 (o317_15 P)).ins 318 (o318_15 P)).ins 319 (o319_15 P)).ins 320 (o320_15 P)).ins 321 (o321_15 P)).ins 322 (o322_15 P)).ins 323 (o323_15 P)).ins 324 (o324_15 P)).ins 325 (o325_15 P)).ins 326 (o326_15 P)).ins 327 (o327_15 P)).ins 328 (o328_15 P)).ins 329 (o329_15 P)).ins 330 (o330_15 P)).ins 331 (o331_15 P)).ins 332 (o332_15 P)).ins 333 (o333_15 P)).ins 334 (o334_15 P))
theorem g13 (p : Program) (b : List Stmt) (w : World) (os : OsState) : segRunT treeTable p w 11 (some (.ref 6)) 1 384 (SharedT.mk (T13 w.params) 258 life (Array.mk []) (Drawn.mk 0 0 0 0) 547 os) (piecesOf l13 en (Code.body b en) (Pos.mk 81 0 81 14) BB) = some (Flow.next, (SharedT.mk (T14 w.params) 335 life (Array.mk []) (Drawn.mk 0 0 0 0) 644 os), Code.body b en, (Pos.mk 147 0 162 81)) := by rw [PySem.W.Fast.te10110043849684766642, PySem.W.Fast.te14364793385576792824]; kernel_rfl
def o3_16(P:Pz):=Obj.mk (.type "dict") none (Data.dict #[(dn P "__name__" 165 (.str "law_spinboard_k36_moves_refused" 621)), (dn P "__doc__" 166 .none), (dn P "__package__" 167 .none), (dn P "__loader__" 168 (.builtin "__main__.__loader__#opaque")), (dn P "__spec__" 169 .none), (dn P "__annotations__" 170 (.ref 6)), (dn P "__builtins__" 171 (.ref 4)), (dn P "__file__" 173 (.str "/claim/cut.py" 172)), (dn P "__cached__" 174 .none), (dn P "BoardError" 206 (.ref 24)), (dn P "NoShare" 222 (.ref 37)), (dn P "NoAmount" 238 (.ref 49)), (dn P "NoMark" 254 (.ref 61)), (dn P "NoBoard" 270 (.ref 73)), (dn P "NoMove" 286 (.ref 85)), (dn P "NoCell" 302 (.ref 97)), (dn P "NeverSo" 318 (.ref 109)), (dn P "NoTable" 334 (.ref 121)), (dn P "NoText" 359 (.ref 140)), (dn P "NotBorne" 384 (.ref 159)), (dn P "Unguarded" 411 (.ref 178)), (dn P "is_whole" 420 (.ref 187)), (dn P "halved_out" 436 (.ref 194)), (dn P "plus" 442 (.ref 199)), (dn P "minus" 450 (.ref 206)), (dn P "spun" 460 (.ref 213)), (dn P "spun_once" 467 (.ref 220)), (dn P "rooted" 474 (.ref 227)), (dn P "is_word" 484 (.ref 234)), (dn P "NOUGHT" 492 (.ref 235)), (dn P "ONE" 498 (.ref 236)), (dn P "MOST_CELLS" 500 (.int 6 499)), (dn P "start" 507 (.ref 242)), (dn P "check_beginning" 515 (.ref 249)), (dn P "cells_of" 522 (.ref 256)), (dn P "NUMBERS_BEHIND" 546 (.ref 257)), (dn P "check_move" 552 (.ref 262)), (dn P "has_move_form" 558 (.ref 267)), (dn P "named_cells" 565 (.ref 274)), (dn P "turned" 571 (.ref 279)), (dn P "mixed" 577 (.ref 284)), (dn P "mixed_at" 586 (.ref 291)), (dn P "spun_where" 592 (.ref 296)), (dn P "word_behind" 598 (.ref 301)), (dn P "exchanged" 608 (.ref 308)), (dn P "run" 620 (.ref 315)), (dn P "_law_cell_at" 630 (.ref 322)), (dn P "_law_whole" 637 (.ref 329)), (dn P "_law_move_by" 643 (.ref 334)), (dn P "_law_number_by" 653 (.ref 341)), (dn P "_law_thing_by" 667 (.ref 348)), (dn P "_law_judged" 673 (.ref 353)), (dn P "_law_refused" 685 (.ref 360)), (dn P "_law_told_move" 691 (.ref 365)), (dn P "law" 697 (.ref 370))] 55) #[]
def o12_16(P:Pz):=(Obj.mk .none none (Data.fields #[(.int 2 0), (.int 0 0), (.ref 20), (.int 4 0), (.int 0 0), (.ref 33), (.int 6 0), (.int 0 0), (.ref 45), (.int 8 0), (.int 0 0), (.ref 57), (.int 10 0), (.int 0 0), (.ref 69), (.int 12 0), (.int 0 0), (.ref 81), (.int 14 0), (.int 0 0), (.ref 93), (.int 16 0), (.int 0 0), (.ref 105), (.int 18 0), (.int 0 0), (.ref 117), (.int 20 0), (.int 0 0), (.ref 129), (.int 24 0), (.int 0 0), (.ref 148), (.int 28 0), (.int 0 0), (.ref 167), (.int 34 0), (.int 0 0), (.ref 186), (.int 37 0), (.int 0 0), (.ref 193), (.int 44 0), (.int 0 0), (.ref 198), (.int 50 0), (.int 0 0), (.ref 205), (.int 52 0), (.int 0 0), (.ref 212), (.int 57 0), (.int 0 0), (.ref 219), (.int 59 0), (.int 0 0), (.ref 226), (.int 62 0), (.int 0 0), (.ref 233), (.int 70 0), (.int 0 0), (.ref 241), (.int 73 0), (.int 0 0), (.ref 248), (.int 78 0), (.int 0 0), (.ref 255), (.int 82 0), (.int 0 0), (.ref 261), (.int 91 0), (.int 0 0), (.ref 266), (.int 101 0), (.int 0 0), (.ref 273), (.int 103 0), (.int 0 0), (.ref 278), (.int 112 0), (.int 0 0), (.ref 283), (.int 114 0), (.int 0 0), (.ref 290), (.int 118 0), (.int 0 0), (.ref 295), (.int 120 0), (.int 0 0), (.ref 300), (.int 131 0), (.int 0 0), (.ref 307), (.int 135 0), (.int 0 0), (.ref 314), (.int 141 0), (.int 0 0), (.ref 321), (.int 145 0), (.int 0 0), (.ref 328), (.int 147 0), (.int 0 0), (.ref 333), (.int 163 0), (.int 0 0), (.ref 340), (.int 172 0), (.int 0 0), (.ref 347), (.int 193 0), (.int 0 0), (.ref 352), (.int 209 0), (.int 0 0), (.ref 359), (.int 223 0), (.int 0 0), (.ref 364), (.int 227 0), (.int 0 0), (.ref 369)]) #[])
def o335_16(P:Pz):=(sq0 "tuple" 0)
def o336_16(P:Pz):=(nf0)
def o337_16(P:Pz):=(Obj.mk (.type "tuple") none (Data.seq #[(.str "_law_cell" 647), (.str "_law_cells" 648), (.str "_law_far" 649), (.str "_law_odd" 650)] 0) #[])
def o338_16(P:Pz):=(sq0 "tuple" 0)
def o339_16(P:Pz):=(fo1 "_law_number_by" "_law_number_by" (top 48) 0 0)
def o340_16(P:Pz):=(cob "_law_number_by" 644 "_law_number_by" 645 646 163 3 0 0 3 335 true 181 336 (.ref 337) (.ref 338) (.ref 339) 651 163 652)
def o341_16(P:Pz):=(fo2 "_law_number_by" "_law_number_by" (top 48) 3 "law_spinboard_k36_moves_refused" 621 340 0)
def o342_16(P:Pz):=(sq0 "tuple" 0)
def o343_16(P:Pz):=(nf0)
def o344_16(P:Pz):=(Obj.mk (.type "tuple") none (Data.seq #[(.str "_law_cell" 657), (.str "_law_cells" 658), (.str "_law_far" 659), (.str "_law_move" 660), (.str "_law_way" 661), (.str "_law_at" 662), (.str "_law_number" 663), (.str "_law_some" 664)] 0) #[])
def o345_16(P:Pz):=(sq0 "tuple" 0)
def o346_16(P:Pz):=(fo1 "_law_thing_by" "_law_thing_by" (top 49) 0 0)
def o347_16(P:Pz):=(cob "_law_thing_by" 654 "_law_thing_by" 655 656 172 3 0 0 3 342 true 181 343 (.ref 344) (.ref 345) (.ref 346) 665 172 666)
def o348_16(P:Pz):=(fo2 "_law_thing_by" "_law_thing_by" (top 49) 3 "law_spinboard_k36_moves_refused" 621 347 0)
def o349_16(P:Pz):=(sq0 "tuple" 0)
def o350_16(P:Pz):=(nf0)
def o351_16(P:Pz):=(fo1 "_law_judged" "_law_judged" (top 50) 0 0)
def o352_16(P:Pz):=(cob "_law_judged" 668 "_law_judged" 669 670 193 2 0 0 3 349 true 181 350 .none .none (.ref 351) 671 193 672)
def o353_16(P:Pz):=(fo2 "_law_judged" "_law_judged" (top 50) 3 "law_spinboard_k36_moves_refused" 621 352 0)
def o354_16(P:Pz):=(sq0 "tuple" 0)
def o355_16(P:Pz):=(nf0)
def o356_16(P:Pz):=(Obj.mk (.type "tuple") none (Data.seq #[(.str "_law_way" 677), (.str "_law_thing" 678), (.str "_law_board" 679), (.str "_law_row" 680), (.str "e" 681), (.str "_law_others" 682)] 0) #[])
def o357_16(P:Pz):=(sq0 "tuple" 0)
def o358_16(P:Pz):=(fo1 "_law_refused" "_law_refused" (top 51) 0 0)
def o359_16(P:Pz):=(cob "_law_refused" 674 "_law_refused" 675 676 209 4 0 0 3 354 true 181 355 (.ref 356) (.ref 357) (.ref 358) 683 209 684)
def o360_16(P:Pz):=(fo2 "_law_refused" "_law_refused" (top 51) 3 "law_spinboard_k36_moves_refused" 621 359 0)
def o361_16(P:Pz):=(sq0 "tuple" 0)
def o362_16(P:Pz):=(nf0)
def o363_16(P:Pz):=(fo1 "_law_told_move" "_law_told_move" (top 52) 0 0)
def o364_16(P:Pz):=(cob "_law_told_move" 686 "_law_told_move" 687 688 223 2 0 0 3 361 true 181 362 .none .none (.ref 363) 689 223 690)
def o365_16(P:Pz):=(fo2 "_law_told_move" "_law_told_move" (top 52) 3 "law_spinboard_k36_moves_refused" 621 364 0)
def o366_16(P:Pz):=(sq0 "tuple" 0)
def o367_16(P:Pz):=(nf0)
def o368_16(P:Pz):=(fo1 "law" "law" (top 53) 0 0)
def o369_16(P:Pz):=(cob "law" 692 "law" 693 694 227 1 0 0 3 366 true 181 367 .none .none (.ref 368) 695 227 696)
def o370_16(P:Pz):=(fo2 "law" "law" (top 53) 3 "law_spinboard_k36_moves_refused" 621 369 0)
def T15 (P : Params) : BT := (((((((((((((((((((((((((((((((((((((((T14 P).ins 3 (o3_16 P)).ins 12 (o12_16 P)).ins 335 (o335_16 P)).ins 336 (o336_16 P)).ins 337 (o337_16 P)).ins 338 (o338_16 P)).ins 339 (o339_16 P)).ins 340 (o340_16 P)).ins 341 (o341_16 P)).ins 342 (o342_16 P)).ins 343 (o343_16 P)).ins 344 (o344_16 P)).ins 345 (o345_16 P)).ins 346 (o346_16 P)).ins 347 (o347_16 P)).ins 348 (o348_16 P)).ins 349 (o349_16 P)).ins 350 (o350_16 P)).ins 351 (o351_16 P)).ins 352 (o352_16 P)).ins 353 (o353_16 P)).ins 354 (o354_16 P)).ins 355 (o355_16 P)).ins 356 (o356_16 P)).ins 357 (o357_16 P)).ins 358 (o358_16 P)).ins 359 (o359_16 P)).ins 360 (o360_16 P)).ins 361 (o361_16 P)).ins 362 (o362_16 P)).ins 363 (o363_16 P)).ins 364 (o364_16 P)).ins 365 (o365_16 P)).ins 366 (o366_16 P)).ins 367 (o367_16 P)).ins 368 (o368_16 P)).ins 369 (o369_16 P)).ins 370 (o370_16 P))
theorem g14 (p : Program) (b : List Stmt) (w : World) (os : OsState) : segRunT treeTable p w 11 (some (.ref 6)) 1 181 (SharedT.mk (T14 w.params) 335 life (Array.mk []) (Drawn.mk 0 0 0 0) 644 os) (piecesOf l14 en (Code.body b en) (Pos.mk 147 0 162 81) BB) = some (Flow.next, (SharedT.mk (T15 w.params) 371 life (Array.mk []) (Drawn.mk 0 0 0 0) 698 os), Code.body b en, (Pos.mk 227 0 247 66)) := by rw [PySem.W.Fast.te10110043849684766642, PySem.W.Fast.te14364793385576792824]; kernel_rfl
def Hf (P : Params) : Heap := Heap.mk (Array.mk [(boot_o_0 P), (boot_o_1 P), (boot_o_2 P), (o3_16 P), (boot_o_4 P), (boot_o_5 P), (boot_o_6 P), (boot_o_7 P), (boot_o_8 P), (boot_o_9 P), (boot_o_10 P), (o11_0 P), (o12_16 P), (o13_0 P), (o14_0 P), (o15_2 P), (o16_2 P), (o17_2 P), (o18_2 P), (o19_2 P), (o20_2 P), (o21_2 P), (o22_2 P), (o23_2 P), (o24_13 P), (o25_2 P), (o26_2 P), (o27_2 P), (o28_3 P), (o29_3 P), (o30_3 P), (o31_3 P), (o32_3 P), (o33_3 P), (o34_3 P), (o35_3 P), (o36_3 P), (o37_3 P), (o38_3 P), (o39_3 P), (o40_4 P), (o41_4 P), (o42_4 P), (o43_4 P), (o44_4 P), (o45_4 P), (o46_4 P), (o47_4 P), (o48_4 P), (o49_4 P), (o50_4 P), (o51_4 P), (o52_5 P), (o53_5 P), (o54_5 P), (o55_5 P), (o56_5 P), (o57_5 P), (o58_5 P), (o59_5 P), (o60_5 P), (o61_5 P), (o62_5 P), (o63_5 P), (o64_6 P), (o65_6 P), (o66_6 P), (o67_6 P), (o68_6 P), (o69_6 P), (o70_6 P), (o71_6 P), (o72_6 P), (o73_6 P), (o74_6 P), (o75_6 P), (o76_7 P), (o77_7 P), (o78_7 P), (o79_7 P), (o80_7 P), (o81_7 P), (o82_7 P), (o83_7 P), (o84_7 P), (o85_7 P), (o86_7 P), (o87_7 P), (o88_8 P), (o89_8 P), (o90_8 P), (o91_8 P), (o92_8 P), (o93_8 P), (o94_8 P), (o95_8 P), (o96_8 P), (o97_8 P), (o98_8 P), (o99_8 P), (o100_9 P), (o101_9 P), (o102_9 P), (o103_9 P), (o104_9 P), (o105_9 P), (o106_9 P), (o107_9 P), (o108_9 P), (o109_9 P), (o110_9 P), (o111_9 P), (o112_10 P), (o113_10 P), (o114_10 P), (o115_10 P), (o116_10 P), (o117_10 P), (o118_10 P), (o119_10 P), (o120_10 P), (o121_10 P), (o122_10 P), (o123_10 P), (o124_11 P), (o125_11 P), (o126_11 P), (o127_11 P), (o128_11 P), (o129_11 P), (o130_11 P), (o131_11 P), (o132_11 P), (o133_11 P), (o134_11 P), (o135_11 P), (o136_11 P), (o137_11 P), (o138_11 P), (o139_11 P), (o140_11 P), (o141_11 P), (o142_11 P), (o143_12 P), (o144_12 P), (o145_12 P), (o146_12 P), (o147_12 P), (o148_12 P), (o149_12 P), (o150_12 P), (o151_12 P), (o152_12 P), (o153_12 P), (o154_12 P), (o155_12 P), (o156_12 P), (o157_12 P), (o158_12 P), (o159_12 P), (o160_12 P), (o161_12 P), (o162_13 P), (o163_13 P), (o164_13 P), (o165_13 P), (o166_13 P), (o167_13 P), (o168_13 P), (o169_13 P), (o170_13 P), (o171_13 P), (o172_13 P), (o173_13 P), (o174_13 P), (o175_13 P), (o176_13 P), (o177_13 P), (o178_13 P), (o179_13 P), (o180_13 P), (o181_13 P), (o182_13 P), (o183_13 P), (o184_13 P), (o185_13 P), (o186_13 P), (o187_13 P), (o188_13 P), (o189_13 P), (o190_13 P), (o191_13 P), (o192_13 P), (o193_13 P), (o194_13 P), (o195_13 P), (o196_13 P), (o197_13 P), (o198_13 P), (o199_13 P), (o200_13 P), (o201_13 P), (o202_13 P), (o203_13 P), (o204_13 P), (o205_13 P), (o206_13 P), (o207_14 P), (o208_14 P), (o209_14 P), (o210_14 P), (o211_14 P), (o212_14 P), (o213_14 P), (o214_14 P), (o215_14 P), (o216_14 P), (o217_14 P), (o218_14 P), (o219_14 P), (o220_14 P), (o221_14 P), (o222_14 P), (o223_14 P), (o224_14 P), (o225_14 P), (o226_14 P), (o227_14 P), (o228_14 P), (o229_14 P), (o230_14 P), (o231_14 P), (o232_14 P), (o233_14 P), (o234_14 P), (o235_14 P), (o236_14 P), (o237_14 P), (o238_14 P), (o239_14 P), (o240_14 P), (o241_14 P), (o242_14 P), (o243_14 P), (o244_14 P), (o245_14 P), (o246_14 P), (o247_14 P), (o248_14 P), (o249_14 P), (o250_14 P), (o251_14 P), (o252_14 P), (o253_14 P), (o254_14 P), (o255_14 P), (o256_14 P), (o257_14 P), (o258_15 P), (o259_15 P), (o260_15 P), (o261_15 P), (o262_15 P), (o263_15 P), (o264_15 P), (o265_15 P), (o266_15 P), (o267_15 P), (o268_15 P), (o269_15 P), (o270_15 P), (o271_15 P), (o272_15 P), (o273_15 P), (o274_15 P), (o275_15 P), (o276_15 P), (o277_15 P), (o278_15 P), (o279_15 P), (o280_15 P), (o281_15 P), (o282_15 P), (o283_15 P), (o284_15 P), (o285_15 P), (o286_15 P), (o287_15 P), (o288_15 P), (o289_15 P), (o290_15 P), (o291_15 P), (o292_15 P), (o293_15 P), (o294_15 P), (o295_15 P), (o296_15 P), (o297_15 P), (o298_15 P), (o299_15 P), (o300_15 P), (o301_15 P), (o302_15 P), (o303_15 P), (o304_15 P), (o305_15 P), (o306_15 P), (o307_15 P), (o308_15 P), (o309_15 P), (o310_15 P), (o311_15 P), (o312_15 P), (o313_15 P), (o314_15 P), (o315_15 P), (o316_15 P), (o317_15 P), (o318_15 P), (o319_15 P), (o320_15 P), (o321_15 P), (o322_15 P), (o323_15 P), (o324_15 P), (o325_15 P), (o326_15 P), (o327_15 P), (o328_15 P), (o329_15 P), (o330_15 P), (o331_15 P), (o332_15 P), (o333_15 P), (o334_15 P), (o335_16 P), (o336_16 P), (o337_16 P), (o338_16 P), (o339_16 P), (o340_16 P), (o341_16 P), (o342_16 P), (o343_16 P), (o344_16 P), (o345_16 P), (o346_16 P), (o347_16 P), (o348_16 P), (o349_16 P), (o350_16 P), (o351_16 P), (o352_16 P), (o353_16 P), (o354_16 P), (o355_16 P), (o356_16 P), (o357_16 P), (o358_16 P), (o359_16 P), (o360_16 P), (o361_16 P), (o362_16 P), (o363_16 P), (o364_16 P), (o365_16 P), (o366_16 P), (o367_16 P), (o368_16 P), (o369_16 P), (o370_16 P)]) life
theorem fin_ (w : World) (os : OsState) : topRun treeTable pr w 11 (some (.ref 6)) 2 ((SharedT.mk (T15 w.params) 371 life (Array.mk []) (Drawn.mk 0 0 0 0) 698 os).abs) (Thread.mk (doneF .next) cE (Pos.mk 227 0 247 66) BB) = some (Shared.mk (Hf w.params) (Array.mk []) (Drawn.mk 0 0 0 0) 698 os) := by rw [PySem.W.Fast.te14082659384304107361, PySem.W.Fast.te14364793385576792824]; kernel_rfl
abbrev MM : Nat := 12 + (1 + (196 + (214 + (214 + (214 + (214 + (214 + (214 + (214 + (214 + (246 + (246 + (387 + (389 + (384 + (181 + 2))))))))))))))))
theorem run_ (w : World) (os : OsState) : topRun treeTable pr w 11 (some (.ref 6)) MM (Shared.mk (boot_heap w.params) (Array.mk []) boot_drawn boot_toks os) (topStub pr) = some (Shared.mk (Hf w.params) (Array.mk []) (Drawn.mk 0 0 0 0) 698 os) := go_top (pre_ w os) (piece_block (block_ w os) (piece_app (segRun_of (g0 _ _ w os)) (piece_app (segRun_of (g1 _ _ w os)) (piece_app (segRun_of (g2 _ _ w os)) (piece_app (segRun_of (g3 _ _ w os)) (piece_app (segRun_of (g4 _ _ w os)) (piece_app (segRun_of (g5 _ _ w os)) (piece_app (segRun_of (g6 _ _ w os)) (piece_app (segRun_of (g7 _ _ w os)) (piece_app (segRun_of (g8 _ _ w os)) (piece_app (segRun_of (g9 _ _ w os)) (piece_app (segRun_of (g10 _ _ w os)) (piece_app (segRun_of (g11 _ _ w os)) (piece_app (segRun_of (g12 _ _ w os)) (piece_app (segRun_of (g13 _ _ w os)) (piece_app (segRun_of (g14 _ _ w os)) (piece_nil (fin_ w os))))))))))))))))))
def qq : Program := { pr with main := { pr.main with body := [top 1, top 2, top 3, top 4, top 5, top 6, top 7, top 8, top 9, top 10, top 11, top 12, top 14, top 16, top 17, top 18, top 19, top 20, top 21, top 23, top 25, top 26, top 27, top 29, top 30, top 32, top 33, top 34, top 35, top 36, top 37, top 38, top 39, top 40, top 41, top 43, top 45, top 46, top 47, top 48, top 49, top 50, top 51, top 52, top 53] } }
def loose : List PySem.Str := [Str.ofString "start", Str.ofString "NUMBERS_BEHIND"]
def lv : List (PySem.Str × WData) := []
abbrev NN : Nat := 7578
def KK (P : Params) : Frag := [(2, (boot_o_2 P)), (3, (o3_16 P)), (15, (o15_2 P)), (22, (o22_2 P)), (23, (o23_2 P)), (24, (o24_13 P)), (25, (o25_2 P)), (28, (o28_3 P)), (35, (o35_3 P)), (36, (o36_3 P)), (37, (o37_3 P)), (40, (o40_4 P)), (47, (o47_4 P)), (48, (o48_4 P)), (49, (o49_4 P)), (52, (o52_5 P)), (59, (o59_5 P)), (60, (o60_5 P)), (61, (o61_5 P)), (64, (o64_6 P)), (71, (o71_6 P)), (72, (o72_6 P)), (73, (o73_6 P)), (76, (o76_7 P)), (83, (o83_7 P)), (84, (o84_7 P)), (85, (o85_7 P)), (88, (o88_8 P)), (95, (o95_8 P)), (96, (o96_8 P)), (97, (o97_8 P)), (100, (o100_9 P)), (107, (o107_9 P)), (108, (o108_9 P)), (109, (o109_9 P)), (112, (o112_10 P)), (119, (o119_10 P)), (120, (o120_10 P)), (121, (o121_10 P)), (124, (o124_11 P)), (131, (o131_11 P)), (133, (o133_11 P)), (134, (o134_11 P)), (136, (o136_11 P)), (137, (o137_11 P)), (138, (o138_11 P)), (139, (o139_11 P)), (140, (o140_11 P)), (143, (o143_12 P)), (150, (o150_12 P)), (152, (o152_12 P)), (153, (o153_12 P)), (155, (o155_12 P)), (156, (o156_12 P)), (157, (o157_12 P)), (158, (o158_12 P)), (159, (o159_12 P)), (162, (o162_13 P)), (169, (o169_13 P)), (171, (o171_13 P)), (172, (o172_13 P)), (174, (o174_13 P)), (175, (o175_13 P)), (176, (o176_13 P)), (177, (o177_13 P)), (178, (o178_13 P)), (181, (o181_13 P)), (183, (o183_13 P)), (184, (o184_13 P)), (186, (o186_13 P)), (187, (o187_13 P)), (188, (o188_13 P)), (190, (o190_13 P)), (191, (o191_13 P)), (193, (o193_13 P)), (194, (o194_13 P)), (195, (o195_13 P)), (198, (o198_13 P)), (199, (o199_13 P)), (200, (o200_13 P)), (202, (o202_13 P)), (203, (o203_13 P)), (205, (o205_13 P)), (206, (o206_13 P)), (207, (o207_14 P)), (209, (o209_14 P)), (210, (o210_14 P)), (212, (o212_14 P)), (213, (o213_14 P)), (214, (o214_14 P)), (216, (o216_14 P)), (217, (o217_14 P)), (219, (o219_14 P)), (220, (o220_14 P)), (221, (o221_14 P)), (223, (o223_14 P)), (224, (o224_14 P)), (226, (o226_14 P)), (227, (o227_14 P)), (228, (o228_14 P)), (230, (o230_14 P)), (231, (o231_14 P)), (233, (o233_14 P)), (234, (o234_14 P)), (235, (o235_14 P)), (236, (o236_14 P)), (237, (o237_14 P)), (238, (o238_14 P)), (241, (o241_14 P)), (242, (o242_14 P)), (243, (o243_14 P)), (245, (o245_14 P)), (246, (o246_14 P)), (248, (o248_14 P)), (249, (o249_14 P)), (250, (o250_14 P)), (252, (o252_14 P)), (253, (o253_14 P)), (255, (o255_14 P)), (256, (o256_14 P)), (257, (o257_14 P)), (258, (o258_15 P)), (261, (o261_15 P)), (262, (o262_15 P)), (263, (o263_15 P)), (266, (o266_15 P)), (267, (o267_15 P)), (268, (o268_15 P)), (270, (o270_15 P)), (271, (o271_15 P)), (273, (o273_15 P)), (274, (o274_15 P)), (275, (o275_15 P)), (278, (o278_15 P)), (279, (o279_15 P)), (280, (o280_15 P)), (283, (o283_15 P)), (284, (o284_15 P)), (285, (o285_15 P)), (287, (o287_15 P)), (288, (o288_15 P)), (290, (o290_15 P)), (291, (o291_15 P)), (292, (o292_15 P)), (295, (o295_15 P)), (296, (o296_15 P)), (297, (o297_15 P)), (300, (o300_15 P)), (301, (o301_15 P)), (302, (o302_15 P)), (304, (o304_15 P)), (305, (o305_15 P)), (307, (o307_15 P)), (308, (o308_15 P)), (309, (o309_15 P)), (311, (o311_15 P)), (312, (o312_15 P)), (314, (o314_15 P)), (315, (o315_15 P)), (316, (o316_15 P)), (318, (o318_15 P)), (319, (o319_15 P)), (321, (o321_15 P)), (322, (o322_15 P)), (323, (o323_15 P)), (325, (o325_15 P)), (326, (o326_15 P)), (328, (o328_15 P)), (329, (o329_15 P)), (330, (o330_15 P)), (333, (o333_15 P)), (334, (o334_15 P)), (335, (o335_16 P)), (337, (o337_16 P)), (338, (o338_16 P)), (340, (o340_16 P)), (341, (o341_16 P)), (342, (o342_16 P)), (344, (o344_16 P)), (345, (o345_16 P)), (347, (o347_16 P)), (348, (o348_16 P)), (349, (o349_16 P)), (352, (o352_16 P)), (353, (o353_16 P)), (354, (o354_16 P)), (356, (o356_16 P)), (357, (o357_16 P)), (359, (o359_16 P)), (360, (o360_16 P)), (361, (o361_16 P)), (364, (o364_16 P)), (365, (o365_16 P)), (366, (o366_16 P)), (369, (o369_16 P)), (370, (o370_16 P))]
def aa : List Addr := [2, 3, 15, 22, 23, 24, 25, 28, 35, 36, 37, 40, 47, 48, 49, 52, 59, 60, 61, 64, 71, 72, 73, 76, 83, 84, 85, 88, 95, 96, 97, 100, 107, 108, 109, 112, 119, 120, 121, 124, 131, 133, 134, 136, 137, 138, 139, 140, 143, 150, 152, 153, 155, 156, 157, 158, 159, 162, 169, 171, 172, 174, 175, 176, 177, 178, 181, 183, 184, 186, 187, 188, 190, 191, 193, 194, 195, 198, 199, 200, 202, 203, 205, 206, 207, 209, 210, 212, 213, 214, 216, 217, 219, 220, 221, 223, 224, 226, 227, 228, 230, 231, 233, 234, 235, 236, 237, 238, 241, 242, 243, 245, 246, 248, 249, 250, 252, 253, 255, 256, 257, 258, 261, 262, 263, 266, 267, 268, 270, 271, 273, 274, 275, 278, 279, 280, 283, 284, 285, 287, 288, 290, 291, 292, 295, 296, 297, 300, 301, 302, 304, 305, 307, 308, 309, 311, 312, 314, 315, 316, 318, 319, 321, 322, 323, 325, 326, 328, 329, 330, 333, 334, 335, 337, 338, 340, 341, 342, 344, 345, 347, 348, 349, 352, 353, 354, 356, 357, 359, 360, 361, 364, 365, 366, 369, 370]
theorem open_ : ∀ w : World, (fencedOpening treeTable pr w NN).map (fun s => (s.heap, s.gens, s.drawn, s.toks)) = some (boot_heap w.params, Array.mk [], boot_drawn, boot_toks) :=
  boot_open (p := pr) (N := NN) (by kernel_rfl) (by kernel_rfl) (fun s => by kernel_rfl)
theorem size_ (w : World) : ((boot_heap w.params).isNs mainGlobals && (Array.mk [] : Array GenState).size == 0, (boot_heap w.params).objs.size, (boot_heap w.params).nsMap mainGlobals "__annotations__") = (true, 11, ((some (.ref 6)) : Option Value)) := by kernel_rfl
theorem le_ : Nat.ble MM NN = true := by kernel_rfl
abbrev rr : OpenRow := PySem.Challenge.rw_spinboard_k36_moves_refused.row
abbrev HH : Hook := kHook KK aa (fun _ => by kernel_rfl)
abbrev Xt (s : Shared) : Bool := xlAt qq lv s && recOk (RowW.records rr.toRowW) s
abbrev sf (w : World) (os : OsState) : Shared := Shared.mk (Hf w.params) (Array.mk []) (Drawn.mk 0 0 0 0) 698 os
theorem lk1 (w : World) (os : OsState) : (staticsOk (importedModules pr.main.body) (boot_heap w.params) (Hf w.params) && namesBound pr (Hf w.params) && gensDone (sf w os) && laidKept (boot_heap w.params) (Hf w.params)) = true := by rw [PySem.W.Fast.te5923862056798008813]; kernel_rfl
theorem lk2 (w : World) (os : OsState) : openSeen qq loose (importedModules pr.main.body) Xt true (sf w os) = openGood qq loose := by rw [PySem.W.Fast.te4187177175401517315, PySem.W.Fast.te5923862056798008813]; kernel_rfl
theorem lk3 (w : World) (os : OsState) : HH.obs (sf w os) = HH.val w := by kernel_rfl
theorem left_ : LeftO pr qq loose Xt HH.obs HH.val NN :=
  LeftO.of_pieces (H₀ := boot_heap) (H₁ := Hf) open_ size_ run_ le_ fun w => funext fun os => looks_pair (lk1 w os) (looks_pair (lk2 w os) (lk3 w os))
theorem said_ : PySem.Challenge.rw_spinboard_k36_moves_refused.wellSaid = true := by rw [PySem.W.Fast.te9446332074065402090]; kernel_rfl
theorem k370 (P : Params) : (KK P).lookup 370 = some (o370_16 P) := by kernel_rfl
theorem k187 (P : Params) : (KK P).lookup 187 = some (o187_13 P) := by kernel_rfl
theorem k194 (P : Params) : (KK P).lookup 194 = some (o194_13 P) := by kernel_rfl
theorem k199 (P : Params) : (KK P).lookup 199 = some (o199_13 P) := by kernel_rfl
theorem k206 (P : Params) : (KK P).lookup 206 = some (o206_13 P) := by kernel_rfl
theorem k213 (P : Params) : (KK P).lookup 213 = some (o213_14 P) := by kernel_rfl
theorem k220 (P : Params) : (KK P).lookup 220 = some (o220_14 P) := by kernel_rfl
theorem k227 (P : Params) : (KK P).lookup 227 = some (o227_14 P) := by kernel_rfl
theorem k234 (P : Params) : (KK P).lookup 234 = some (o234_14 P) := by kernel_rfl
theorem k242 (P : Params) : (KK P).lookup 242 = some (o242_14 P) := by kernel_rfl
theorem k249 (P : Params) : (KK P).lookup 249 = some (o249_14 P) := by kernel_rfl
theorem k256 (P : Params) : (KK P).lookup 256 = some (o256_14 P) := by kernel_rfl
theorem k262 (P : Params) : (KK P).lookup 262 = some (o262_15 P) := by kernel_rfl
theorem k267 (P : Params) : (KK P).lookup 267 = some (o267_15 P) := by kernel_rfl
theorem k274 (P : Params) : (KK P).lookup 274 = some (o274_15 P) := by kernel_rfl
theorem k279 (P : Params) : (KK P).lookup 279 = some (o279_15 P) := by kernel_rfl
theorem k284 (P : Params) : (KK P).lookup 284 = some (o284_15 P) := by kernel_rfl
theorem k291 (P : Params) : (KK P).lookup 291 = some (o291_15 P) := by kernel_rfl
theorem k296 (P : Params) : (KK P).lookup 296 = some (o296_15 P) := by kernel_rfl
theorem k301 (P : Params) : (KK P).lookup 301 = some (o301_15 P) := by kernel_rfl
theorem k308 (P : Params) : (KK P).lookup 308 = some (o308_15 P) := by kernel_rfl
theorem k315 (P : Params) : (KK P).lookup 315 = some (o315_15 P) := by kernel_rfl
theorem k322 (P : Params) : (KK P).lookup 322 = some (o322_15 P) := by kernel_rfl
theorem k329 (P : Params) : (KK P).lookup 329 = some (o329_15 P) := by kernel_rfl
theorem k334 (P : Params) : (KK P).lookup 334 = some (o334_15 P) := by kernel_rfl
theorem k341 (P : Params) : (KK P).lookup 341 = some (o341_16 P) := by kernel_rfl
theorem k348 (P : Params) : (KK P).lookup 348 = some (o348_16 P) := by kernel_rfl
theorem k353 (P : Params) : (KK P).lookup 353 = some (o353_16 P) := by kernel_rfl
theorem k360 (P : Params) : (KK P).lookup 360 = some (o360_16 P) := by kernel_rfl
theorem k365 (P : Params) : (KK P).lookup 365 = some (o365_16 P) := by kernel_rfl
theorem k237 (P : Params) : (KK P).lookup 237 = some (o237_14 P) := by kernel_rfl
theorem k236 (P : Params) : (KK P).lookup 236 = some (o236_14 P) := by kernel_rfl
theorem k235 (P : Params) : (KK P).lookup 235 = some (o235_14 P) := by kernel_rfl
theorem k257 (P : Params) : (KK P).lookup 257 = some (o257_14 P) := by kernel_rfl
theorem k85 (P : Params) : (KK P).lookup 85 = some (o85_7 P) := by kernel_rfl
theorem k97 (P : Params) : (KK P).lookup 97 = some (o97_8 P) := by kernel_rfl
theorem k24 (P : Params) : (KK P).lookup 24 = some (o24_13 P) := by kernel_rfl
theorem f14 (P : Params) : FunAt (KK P) "is_whole" (top 14) .none := fat (f := 187) (by kernel_rfl) (k187 P) (by kernel_rfl) (by kernel_rfl)
theorem f16 (P : Params) : FunAt (KK P) "halved_out" (top 16) .none := fat (f := 194) (by kernel_rfl) (k194 P) (by kernel_rfl) (by kernel_rfl)
theorem f17 (P : Params) : FunAt (KK P) "plus" (top 17) .none := fat (f := 199) (by kernel_rfl) (k199 P) (by kernel_rfl) (by kernel_rfl)
theorem f18 (P : Params) : FunAt (KK P) "minus" (top 18) .none := fat (f := 206) (by kernel_rfl) (k206 P) (by kernel_rfl) (by kernel_rfl)
theorem f19 (P : Params) : FunAt (KK P) "spun" (top 19) .none := fat (f := 213) (by kernel_rfl) (k213 P) (by kernel_rfl) (by kernel_rfl)
theorem f20 (P : Params) : FunAt (KK P) "spun_once" (top 20) .none := fat (f := 220) (by kernel_rfl) (k220 P) (by kernel_rfl) (by kernel_rfl)
theorem f21 (P : Params) : FunAt (KK P) "rooted" (top 21) .none := fat (f := 227) (by kernel_rfl) (k227 P) (by kernel_rfl) (by kernel_rfl)
theorem f23 (P : Params) : FunAt (KK P) "is_word" (top 23) .none := fat (f := 234) (by kernel_rfl) (k234 P) (by kernel_rfl) (by kernel_rfl)
theorem f28 (P : Params) : FunAt (KK P) "start" (top 28) (.ref 237) := fat (f := 242) (by kernel_rfl) (k242 P) (by kernel_rfl) (by kernel_rfl)
theorem f29 (P : Params) : FunAt (KK P) "check_beginning" (top 29) .none := fat (f := 249) (by kernel_rfl) (k249 P) (by kernel_rfl) (by kernel_rfl)
theorem f30 (P : Params) : FunAt (KK P) "cells_of" (top 30) .none := fat (f := 256) (by kernel_rfl) (k256 P) (by kernel_rfl) (by kernel_rfl)
theorem f33 (P : Params) : FunAt (KK P) "check_move" (top 33) .none := fat (f := 262) (by kernel_rfl) (k262 P) (by kernel_rfl) (by kernel_rfl)
theorem f34 (P : Params) : FunAt (KK P) "has_move_form" (top 34) .none := fat (f := 267) (by kernel_rfl) (k267 P) (by kernel_rfl) (by kernel_rfl)
theorem f35 (P : Params) : FunAt (KK P) "named_cells" (top 35) .none := fat (f := 274) (by kernel_rfl) (k274 P) (by kernel_rfl) (by kernel_rfl)
theorem f36 (P : Params) : FunAt (KK P) "turned" (top 36) .none := fat (f := 279) (by kernel_rfl) (k279 P) (by kernel_rfl) (by kernel_rfl)
theorem f37 (P : Params) : FunAt (KK P) "mixed" (top 37) .none := fat (f := 284) (by kernel_rfl) (k284 P) (by kernel_rfl) (by kernel_rfl)
theorem f38 (P : Params) : FunAt (KK P) "mixed_at" (top 38) .none := fat (f := 291) (by kernel_rfl) (k291 P) (by kernel_rfl) (by kernel_rfl)
theorem f39 (P : Params) : FunAt (KK P) "spun_where" (top 39) .none := fat (f := 296) (by kernel_rfl) (k296 P) (by kernel_rfl) (by kernel_rfl)
theorem f40 (P : Params) : FunAt (KK P) "word_behind" (top 40) .none := fat (f := 301) (by kernel_rfl) (k301 P) (by kernel_rfl) (by kernel_rfl)
theorem f41 (P : Params) : FunAt (KK P) "exchanged" (top 41) .none := fat (f := 308) (by kernel_rfl) (k308 P) (by kernel_rfl) (by kernel_rfl)
theorem f43 (P : Params) : FunAt (KK P) "run" (top 43) .none := fat (f := 315) (by kernel_rfl) (k315 P) (by kernel_rfl) (by kernel_rfl)
theorem f45 (P : Params) : FunAt (KK P) "_law_cell_at" (top 45) .none := fat (f := 322) (by kernel_rfl) (k322 P) (by kernel_rfl) (by kernel_rfl)
theorem f46 (P : Params) : FunAt (KK P) "_law_whole" (top 46) .none := fat (f := 329) (by kernel_rfl) (k329 P) (by kernel_rfl) (by kernel_rfl)
theorem f47 (P : Params) : FunAt (KK P) "_law_move_by" (top 47) .none := fat (f := 334) (by kernel_rfl) (k334 P) (by kernel_rfl) (by kernel_rfl)
theorem f48 (P : Params) : FunAt (KK P) "_law_number_by" (top 48) .none := fat (f := 341) (by kernel_rfl) (k341 P) (by kernel_rfl) (by kernel_rfl)
theorem f49 (P : Params) : FunAt (KK P) "_law_thing_by" (top 49) .none := fat (f := 348) (by kernel_rfl) (k348 P) (by kernel_rfl) (by kernel_rfl)
theorem f50 (P : Params) : FunAt (KK P) "_law_judged" (top 50) .none := fat (f := 353) (by kernel_rfl) (k353 P) (by kernel_rfl) (by kernel_rfl)
theorem f51 (P : Params) : FunAt (KK P) "_law_refused" (top 51) .none := fat (f := 360) (by kernel_rfl) (k360 P) (by kernel_rfl) (by kernel_rfl)
theorem f52 (P : Params) : FunAt (KK P) "_law_told_move" (top 52) .none := fat (f := 365) (by kernel_rfl) (k365 P) (by kernel_rfl) (by kernel_rfl)
end Hd
end K36
open PySem PySem.W PyProof.Rows
set_option maxRecDepth 100000 in
set_option maxHeartbeats 0 in
theorem PySem.Challenge.cw_spinboard_k36_moves_refused_holds : PySem.Challenge.rw_spinboard_k36_moves_refused.Holds := by
  refine holds_law K36.Hd.said_ fun said => ?_
  refine holds_open (q := K36.Hd.qq) (loose := K36.Hd.loose) (Xt := K36.Hd.Xt) (XP := XL K36.Hd.qq K36.Hd.lv) (Yf := K36.Hd.HH.obs) (Ya := K36.Hd.HH.val) (YP := K36.Hd.HH.says) (d := ⟨"law", L2.defArgs (K36.top 53), L2.defBody (K36.top 53), L2.defScope (K36.top 53), K36.Hd.dPos (K36.top 53)⟩) (kwd := []) (N := K36.Hd.NN) K36.Hd.left_ K36.Hd.HH.of K36.Hd.HH.keeps (fun s e => xl_of s (Bool.and_eq_true_iff.mp e).1) XL.keeps (by kernel_rfl) (by kernel_rfl) (by kernel_rfl) (fun s e => recFacts_of (Bool.and_eq_true_iff.mp e).2) (by kernel_rfl) said (by kernel_rfl) ⟨rfl, rfl, rfl, rfl, rfl, by decide +kernel⟩ ?hw ?hc
  case hw => w_witness2
  refine K36.walk (l := PySem.Challenge.rw_spinboard_k36_moves_refused) rfl rfl (fun w h Y => PySem.W.kIn_of Y) ?F
  case F =>
    intro w mg fa h KX G hmg
    refine' K36.all_mk (K := K36.Hd.KK w.params) (f := 370) (aN := 257) (aO := 236) (aZ := 235) (Dd := 237) (D := 24) (A_NeverSo := 109) (A_NoAmount := 49) (A_NoBoard := 73) (A_NoMark := 61) (A_NoShare := 37) (A_NoTable := 121) (A_NoText := 140) (A_NotBorne := 159) (A_Unguarded := 178) (A_NoMove := 85) (A_NoCell := 97) (tM := 499) KX G hmg ?aL (K36.Hd.k370 _) ?cL ?kL (K36.Hd.f14 _) (K36.Hd.f16 _) (K36.Hd.f17 _) (K36.Hd.f18 _) (K36.Hd.f19 _) (K36.Hd.f20 _) (K36.Hd.f21 _) (K36.Hd.f23 _) (K36.Hd.f28 _) (K36.Hd.f29 _) (K36.Hd.f30 _) (K36.Hd.f33 _) (K36.Hd.f34 _) (K36.Hd.f35 _) (K36.Hd.f36 _) (K36.Hd.f37 _) (K36.Hd.f38 _) (K36.Hd.f39 _) (K36.Hd.f40 _) (K36.Hd.f41 _) (K36.Hd.f43 _) (K36.Hd.f45 _) (K36.Hd.f46 _) (K36.Hd.f47 _) (K36.Hd.f48 _) (K36.Hd.f49 _) (K36.Hd.f50 _) (K36.Hd.f51 _) (K36.Hd.f52 _) ?z0 ?z1 ?z2 ?z3 ?z4 ?z5 ?z6 ?z7 ?z8 ?z9 ?z10 ?z11 ?z12 ?z13 ?z14 ?z15 ?gM0 ?tD ?gO0 ?tO ?gZ0 ?tZ ?gN0 ?tN ?nN0 ?aD ?zV (L2.excAt ?xc1 ?xc2 ?xc3 ?xc4) (L2.excAt ?yc1 ?yc2 ?yc3 ?yc4) (L2.excAt ?xd1 ?xd2 ?xd3 ?xd4) ?sub ?sub3 ⟨?e1, ?e2, ?e3, ?e4, ?e5, ?e6, ?e7⟩ ⟨?f1, ?f2, ?f3, ?f4, ?f5, ?f6, ?f7⟩ ?ve ?ve3 ?k1 ?k2 ?j1 ?j2 ?mm ?mc ?cm ?cc ?n_NeverSo ?n_NoAmount ?n_NoBoard ?n_NoMark ?n_NoShare ?n_NoTable ?n_NoText ?n_NotBorne ?n_Unguarded ?n_NoMove ?n_NoCell
    (case aL => kernel_rfl); (case cL => kernel_rfl); (case kL => kernel_rfl)
    (case z0 => kernel_rfl); (case z1 => kernel_rfl); (case z2 => kernel_rfl); (case z3 => kernel_rfl); (case z4 => kernel_rfl); (case z5 => kernel_rfl); (case z6 => kernel_rfl); (case z7 => kernel_rfl); (case z8 => kernel_rfl); (case z9 => kernel_rfl); (case z10 => kernel_rfl); (case z11 => kernel_rfl); (case z12 => kernel_rfl); (case z13 => kernel_rfl); (case z14 => kernel_rfl); (case z15 => kernel_rfl)
    (case gM0 => kernel_rfl)
    (case tD => exact K36.Hd.k237 _); (case gO0 => kernel_rfl); (case tO => exact K36.Hd.k236 _); (case gZ0 => kernel_rfl); (case tZ => exact K36.Hd.k235 _)
    (case gN0 => kernel_rfl); (case tN => exact K36.Hd.k257 _); (case nN0 => decide)
    (case aD => kernel_rfl); (case zV => kernel_rfl)
    (case xc1 => exact K36.Hd.k85 _); (case xc2 => kernel_rfl); (case xc3 => kernel_rfl); (case xc4 => kernel_rfl)
    (case yc1 => exact K36.Hd.k97 _); (case yc2 => kernel_rfl); (case yc3 => kernel_rfl); (case yc4 => kernel_rfl)
    (case xd1 => exact K36.Hd.k24 _); (case xd2 => kernel_rfl); (case xd3 => kernel_rfl); (case xd4 => kernel_rfl)
    (case sub => kernel_rfl); (case sub3 => kernel_rfl)
    (case e1 => kernel_rfl); (case e2 => kernel_rfl); (case e3 => kernel_rfl); (case e4 => kernel_rfl); (case e5 => kernel_rfl); (case e6 => kernel_rfl); (case e7 => kernel_rfl)
    (case f1 => kernel_rfl); (case f2 => kernel_rfl); (case f3 => kernel_rfl); (case f4 => kernel_rfl); (case f5 => kernel_rfl); (case f6 => kernel_rfl); (case f7 => kernel_rfl)
    (case ve => kernel_rfl); (case ve3 => kernel_rfl)
    (case k1 => kernel_rfl); (case k2 => kernel_rfl); (case j1 => kernel_rfl); (case j2 => kernel_rfl)
    (case mm => kernel_rfl); (case mc => kernel_rfl); (case cm => kernel_rfl); (case cc => kernel_rfl)
    (case n_NeverSo => kernel_rfl)
    (case n_NoAmount => kernel_rfl)
    (case n_NoBoard => kernel_rfl)
    (case n_NoMark => kernel_rfl)
    (case n_NoShare => kernel_rfl)
    (case n_NoTable => kernel_rfl)
    (case n_NoText => kernel_rfl)
    (case n_NotBorne => kernel_rfl)
    (case n_Unguarded => kernel_rfl)
    (case n_NoMove => kernel_rfl)
    (case n_NoCell => kernel_rfl)

